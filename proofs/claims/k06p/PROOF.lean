import PyProof.Rows.All
import Wide.All
import OpenK.AllK
import Wide.FinOn
import HandS.ForMost
import HandS.Exc
import HandS.ExcOwn
import HandS.TryOnly
import HandS.WordsExc
import HandS.Evl
import HandS.Walk
import HandS.IsInst
import HandS.AnyAll
import HandS.TupSets
import HandS.SetBool
import KE.KeyNested
import HandS.Strs
import HandS.SetFor
import PyProof.DictRoadsH
import HandS.Dict
import HandS.Deep
import HandS.TupAny
import HandS.CallSlots
import HandS.GenList
import KE.KNest
import HandS.EndTab
import KE.SortData
import HandS.TupLe
import PyProof.ExcBaseAll.ValueError
import HandS.FStr
import PyProof.StrBlock2
import HandS.Style
import PyProof.Rows.TupMore
import KE.KUnpackStar
import HandS.SetKeys
import PySem.Challenge.RW_wishshown_k06_changes_and_back
set_option maxHeartbeats 4000000
set_option Elab.async false
set_option autoImplicit false
set_option linter.all false
set_option maxRecDepth 100000
set_option maxHeartbeats 4000000
/-! sets of keys of any depth (tuples of texts and numbers, nested): searching, adding -/
namespace Pyr
open PySem PySem.Spec PyProof.Rows L2
section
variable {P : Program} {w : World}
/-- asked by value: some answer, nothing else happens -/
def Asked (P : Program) (w : World) (n : Nat) (s : Shared) (v : Value) : Prop := ∀ (A : Around) (E : Value → Shared → Prop) (Q : Bool → Shared → Prop), (∀ b, Q b s) → wpAny (model P w) A (hashByValue n v) Q E s
/-- of no class statement -/
def NoCls (P : Program) (w : World) (n : Nat) (s : Shared) (v : Value) : Prop := ∀ (A : Around) (E : Value → Shared → Prop) (Q : Bool → Shared → Prop), Q false s → wpAny (model P w) A (ofAClassStatement n v) Q E s
theorem asked_tuple {n : Nat} {s : Shared} {a : Addr} {o : Obj} {vs : Array Value} {m : Nat} (ho : s.heap.get? a = some o) (hc : o.cls = .type "tuple") (hd : o.data = .seq vs m) (hq : ∀ v ∈ vs.toList, Asked P w n s v) : Asked P w (n + 1) s (.ref a) := fun A E Q q => by
  unfold hashByValue
  refine wpAny_bind (wpAny_specialOf (T := "tuple") ⟨o, ho, hc⟩ PySem.F.slot_tuple_hash.lookup ?_)
  show wpAny _ _ (seqItems? (.ref a) >>= _) _ _ s
  refine wpAny_bind (wpAny_seqItems ho hd (wpAny_bind ?_))
  show wpAny _ _ (forIn vs _ _) _ _ s
  rw [← Array.forIn_toList]
  refine wpAny_forIn_list _ (fun left r z => z = s ∧ r.1 = none ∧ ∀ v ∈ left, Asked P w n s v) _ ?_ ?_ _ _ ⟨rfl, rfl, hq⟩
  · rintro v left r z ⟨rfl, hr, al⟩
    refine wpAny_bind (al v List.mem_cons_self _ _ _ fun b => ?_)
    cases b
    · exact wpAny_pure (wpAny_pure (q false))
    · exact wpAny_pure ⟨rfl, rfl, fun u hu => al u (List.mem_cons_of_mem _ hu)⟩
  · rintro ⟨r1, r2⟩ z ⟨rfl, hr, _⟩
    obtain rfl : r1 = none := hr
    exact wpAny_pure (q true)
theorem noCls_tuple {n : Nat} {s : Shared} {a : Addr} {o : Obj} {vs : Array Value} {m : Nat} (ho : s.heap.get? a = some o) (hc : o.cls = .type "tuple") (hd : o.data = .seq vs m) (hq : ∀ v ∈ vs.toList, NoCls P w n s v) : NoCls P w (n + 1) s (.ref a) := fun A E Q q => by
  unfold ofAClassStatement
  refine wpAny_bind (wpAny_typeOf (T := "tuple") ⟨o, ho, hc⟩ ?_)
  dsimp only
  rw [show (("tuple" : String) == "tuple") = true from by decide]
  simp only [if_true, Bool.not_true, Bool.false_eq_true, if_false]
  try refine wpAny_bind (wpAny_pure ?_)
  try simp only [Bool.not_true, Bool.false_eq_true, if_false]
  show wpAny _ _ (seqItems? (.ref a) >>= _) _ _ s
  refine wpAny_bind (wpAny_seqItems ho hd ?_)
  dsimp only
  refine wpAny_bind ?_
  show wpAny _ _ (forIn vs _ _) _ _ s
  rw [← Array.forIn_toList]
  refine wpAny_forIn_list _ (fun left r z => z = s ∧ r.1 = none ∧ ∀ v ∈ left, NoCls P w n s v) _ ?_ ?_ _ _ ⟨rfl, rfl, hq⟩
  · rintro v left r z ⟨rfl, hr, al⟩
    refine wpAny_bind (al v List.mem_cons_self _ _ _ ?_)
    exact wpAny_pure ⟨rfl, rfl, fun u hu => al u (List.mem_cons_of_mem _ hu)⟩
  · rintro ⟨r1, r2⟩ z ⟨rfl, hr, _⟩
    obtain rfl : r1 = none := hr
    exact wpAny_pure q
mutual
theorem asked_key : ∀ (k : NestedKey) (v : Value) (n : Nat) (s : Shared), NestedIs s.heap k v → k.depth ≤ n → Asked P w n s v
  | .none, _, n, s, x, _ => by cases x; intro A E Q q; cases n <;> exact wpAny_pure (q true)
  | .num i, _, n, s, x, _ => by cases x <;> (intro A E Q q; cases n <;> exact wpAny_pure (q true))
  | .text y, _, n, s, x, _ => by cases x; intro A E Q q; cases n <;> exact wpAny_pure (q false)
  | .tup ks, _, 0, s, x, hn => absurd hn (by rw [NestedKey.depth]; exact Nat.not_succ_le_zero _)
  | .tup ks, _, n + 1, s, x, hn => by
    cases x with
    | tup hg hc hd hk => exact asked_tuple hg hc hd (asked_keys ks _ n s hk (by rw [NestedKey.depth] at hn; exact Nat.le_of_succ_le_succ hn))
theorem asked_keys : ∀ (ks : List NestedKey) (vs : List Value) (n : Nat) (s : Shared), NestedAll s.heap ks vs → NestedKey.depthAll ks ≤ n → ∀ v ∈ vs, Asked P w n s v
  | [], _, _, _, x, _, v, hv => by cases x; cases hv
  | k :: ks, _, n, s, x, hn, v, hv => by
    rw [NestedKey.depthAll] at hn
    cases x with
    | cons x1 x2 =>
      cases hv with
      | head => exact asked_key k _ n s x1 (Nat.le_trans (Nat.le_max_left _ _) hn)
      | tail _ hv => exact asked_keys ks _ n s x2 (Nat.le_trans (Nat.le_max_right _ _) hn) v hv
end
mutual
theorem noCls_key : ∀ (k : NestedKey) (v : Value) (n : Nat) (s : Shared), NestedIs s.heap k v → k.depth ≤ n → NoCls P w n s v
  | .none, _, n, s, x, _ => by cases x; intro A E Q q; cases n <;> exact wpAny_pure q
  | .num i, _, n, s, x, _ => by cases x <;> (intro A E Q q; cases n <;> exact wpAny_pure q)
  | .text y, _, n, s, x, _ => by cases x; intro A E Q q; cases n <;> exact wpAny_pure q
  | .tup ks, _, 0, s, x, hn => absurd hn (by rw [NestedKey.depth]; exact Nat.not_succ_le_zero _)
  | .tup ks, _, n + 1, s, x, hn => by
    cases x with
    | tup hg hc hd hk => exact noCls_tuple hg hc hd (noCls_keys ks _ n s hk (by rw [NestedKey.depth] at hn; exact Nat.le_of_succ_le_succ hn))
theorem noCls_keys : ∀ (ks : List NestedKey) (vs : List Value) (n : Nat) (s : Shared), NestedAll s.heap ks vs → NestedKey.depthAll ks ≤ n → ∀ v ∈ vs, NoCls P w n s v
  | [], _, _, _, x, _, v, hv => by cases x; cases hv
  | k :: ks, _, n, s, x, hn, v, hv => by
    rw [NestedKey.depthAll] at hn
    cases x with
    | cons x1 x2 =>
      cases hv with
      | head => exact noCls_key k _ n s x1 (Nat.le_trans (Nat.le_max_left _ _) hn)
      | tail _ hv => exact noCls_keys ks _ n s x2 (Nat.le_trans (Nat.le_max_right _ _) hn) v hv
end
variable {A : Around} {E : Value → Shared → Prop} {s : Shared}
/-- the tuple at a is the key k -/
structure KAt (h : Heap) (k : NestedKey) (a : Addr) : Prop where
  is : NestedIs h k (.ref a)
  low : k.depth ≤ 8
theorem hidden {k : NestedKey} {b : Addr} {Q : Bool → Shared → Prop} (hk : KAt s.heap k b) {ys : List Value} (hy : ∀ y ∈ ys, ∃ c j, y = Value.ref c ∧ KAt s.heap j c) (q : Q false s) : wpAny (model P w) A (searchCouldBeSeen (.ref b) ys) Q E s := by
  unfold searchCouldBeSeen
  refine wpAny_bind ?_
  refine wpAny_forIn_list _ (fun left r z => z = s ∧ r.1 = none ∧ ∀ y ∈ left, ∃ c j, y = Value.ref c ∧ KAt s.heap j c) _ ?_ ?_ _ _ ⟨rfl, rfl, hy⟩
  · rintro v left r z ⟨rfl, hr, al⟩
    obtain ⟨c, j, rfl, hc⟩ := al v List.mem_cons_self
    have next : ∀ y ∈ left, ∃ c j, y = Value.ref c ∧ KAt z.heap j c := fun u hu => al u (List.mem_cons_of_mem _ hu)
    dsimp only
    by_cases same : (b == c || (carriedByValue (.ref b) && carriedByValue (.ref c))) = true
    · exact wp_if_pos same (wpAny_pure ⟨rfl, rfl, next⟩)
    · refine wp_if_neg same ?_
      refine wpAny_bind ((nestedKind P w).quiet ⟨hk.is, hk.low⟩ ?_)
      simp only [Bool.not_true, Bool.false_eq_true, if_false]
      refine wpAny_bind ((nestedKind P w).quiet ⟨hc.is, hc.low⟩ ?_)
      simp only [Bool.not_true, Bool.false_eq_true, if_false]
      refine wpAny_bind (noCls_key k _ 8 _ hk.is hk.low _ _ _ ?_)
      simp only [Bool.false_eq_true, if_false]
      refine wpAny_bind (noCls_key j _ 8 _ hc.is hc.low _ _ _ ?_)
      exact wpAny_pure ⟨rfl, rfl, next⟩
  · rintro ⟨r1, r2⟩ z ⟨rfl, hr, _⟩
    obtain rfl : r1 = none := hr
    exact wpAny_pure q
end
end Pyr

set_option Elab.async false
set_option autoImplicit false
set_option linter.all false
set_option maxRecDepth 100000
set_option maxHeartbeats 4000000
/-! searching in a set of keys of any depth -/
namespace Pyr
open PySem PySem.Spec PyProof.Rows L2
/-- the entries of a set's table -/
def entN (w : World) (L : List (Addr × NestedKey)) : List (Int × Value) := L.map fun e => (e.2.hash w, Value.ref e.1)
/-- the set at a: its members L in the order of their slots -/
structure SetN (P : Program) (w : World) (h : Heap) (a : Addr) (L : List (Addr × NestedKey)) (es : Array (Int × Value)) (ep : Nat) (t : SetTable) : Prop where
  here : ∃ o, h.get? a = some o ∧ o.ExactSet ∧ o.data = .set es ep t
  cont : es.toList = entN w L
  tab : TabOk t (L.map fun e => e.2.hash w)
  once : (L.map (·.2)).Nodup
  keys : ∀ e ∈ L, KAt h e.2 e.1
  made : w.params.followText "set-order" = true ∨ t.led = true
  less : L.length * 5 < t.mask * 3
  few : L.length < 64
section
variable {P : Program} {w : World} {A : Around} {E : Value → Shared → Prop} {s : Shared} {a : Addr} {L : List (Addr × NestedKey)} {es : Array (Int × Value)} {ep : Nat} {t : SetTable}
theorem ent_len (h : es.toList = entN w L) : es.size = L.length := by
  rw [← Array.length_toList, h, entN, List.length_map]
theorem ent_at (h : es.toList = entN w L) {i : Nat} {e : Addr × NestedKey} (hi : L[i]? = some e) : es[i]? = some (e.2.hash w, Value.ref e.1) := by
  rw [← Array.getElem?_toList, h, entN, List.getElem?_map, hi]
  rfl
theorem SetN.slots (R : SetN P w s.heap a L es ep t) : t.place.size = L.length := by
  rw [R.tab.sz, List.length_map]
theorem fits_of {n : Nat} (h1 : t.place.size = n) (h2 : t.dummies = #[]) (h3 : n ≤ t.mask) : t.fits n = true := by
  unfold SetTable.fits SetTable.fill
  rw [h2, Bool.and_eq_true, beq_iff_eq, decide_eq_true_eq]
  exact ⟨h1, by rw [h1]; exact h3⟩
theorem SetN.fit (R : SetN P w s.heap a L es ep t) : t.fits es.size = true := by
  have := R.less
  rw [ent_len R.cont]
  exact fits_of R.slots R.tab.dm (by omega)
theorem firm (h : MaskOk t.mask) : ¬ t.gaveWay = true := by
  unfold SetTable.gaveWay
  rw [mask_odd h]
  decide
/-- the probe's state after c steps -/
def spot (t : SetTable) (h : Int) (c : Nat) : SetTable.Probe := nth t.mask (runAt t.mask (SetTable.bits h % (t.mask + 1)) (SetTable.bits h)) c
theorem spot_j (h : Int) (c : Nat) : (spot t h c).j = way t.mask h c := rfl
theorem spot_0 (h : Int) : t.probeStart h = spot t h 0 := rfl
theorem nth_spot (h : Int) (c q : Nat) : nth t.mask (spot t h c) q = spot t h (c + q) := (nth_add t.mask c _ q).symm
theorem nth_clear (m : Nat) : ∀ (n : Nat) (p : SetTable.Probe), p.dummy = none → (nth m p n).dummy = none
  | 0, _, h => h
  | n + 1, p, h => nth_clear m n (adv m p) (by unfold adv; split <;> exact h)
/-- the entry that a slot on the way points to -/
theorem SetN.hashAt (R : SetN P w s.heap a L es ep t) {i : Nat} {e : Addr × NestedKey} (hi : L[i]? = some e) : (fun i => (es[i]?.map (·.1)).getD 0) i = e.2.hash w := by
  show (es[i]?.map (·.1)).getD 0 = _
  rw [ent_at R.cont hi]
  rfl
theorem seek (R : SetN P w s.heap a L es ep t) {x : Addr} {k : NestedKey} (hx : KAt s.heap k x) (hu : A.units + 8 < cLine) (adding : Bool) {K : Nat} (near : K < 10 * SetTable.turns t.mask) (free : way t.mask (k.hash w) K ∉ t.place.toList)
    (taken : ∀ c, c < K → way t.mask (k.hash w) c ∈ t.place.toList) {Q : SetFound → Shared → Prop} (yes : ∀ r, k ∈ L.map (·.2) → (adding = false → r.isSome = true) → Q (.there r) s) (no : k ∉ L.map (·.2) → Q (.free (way t.mask (k.hash w) K) false) s) :
    ∀ (f c : Nat) (stand : Option SetTable.Probe), stand.getD (t.probeStart (k.hash w)) = spot t (k.hash w) c → c ≤ K → K < f + c →
      (∀ (i : Nat) e, L[i]? = some e → e.2 = k → ∃ d, c ≤ d ∧ d < K ∧ t.place.toList[i]? = some (way t.mask (k.hash w) d)) →
      wpAny (model P w) A (setSearchFrom a (.ref x) (k.hash w) adding f stand) Q E s := by
  intro f
  induction f with
  | zero => intro c _ _ h1 h2 _; omega
  | succ f again =>
    intro c stand st hc hf ahead
    obtain ⟨o, ho, _, hd⟩ := R.here
    have go := go_spec t R.tab.ris R.tab.dm (fun i => (es[i]?.map (·.1)).getD 0) (k.hash w) (10 * SetTable.turns t.mask) (K - c) (spot t (k.hash w) c) (nth_clear _ _ _ rfl) (by omega)
      (fun q hq => by rw [nth_spot]; exact taken (c + q) (by omega)) (by rw [nth_spot, show c + (K - c) = K by omega]; exact free)
    rw [setSearchFrom_succ]
    refine wpAny_bind (wpAny_setState_of ho hd R.fit ?_)
    dsimp only
    refine wp_if_neg (firm R.tab.mok) ?_
    try refine wpAny_bind (wpAny_pure ?_)
    have pr : t.probe (fun i => (es[i]?.map (·.1)).getD 0) (k.hash w) (stand.getD (t.probeStart (k.hash w))) = SetTable.probe.go t (fun i => (es[i]?.map (·.1)).getD 0) (k.hash w) (10 * SetTable.turns t.mask) (spot t (k.hash w) c) := by rw [st]; rfl
    rcases go with ⟨q, i, hq, hi, hh, before, pg⟩ | ⟨before, pg⟩
    · rw [pr, pg, nth_spot, nth_spot]
      rw [nth_spot] at hi
      dsimp only
      have il : i < L.length := by
        have h1 := (List.getElem?_eq_some_iff.mp hi).1
        rw [Array.length_toList, R.slots] at h1
        exact h1
      obtain ⟨e, he⟩ : ∃ e, L[i]? = some e := ⟨_, List.getElem?_eq_getElem il⟩
      have em := List.mem_of_getElem? he
      have ek := R.keys e em
      have behind : wpAny (model P w) A (searchRest a (.ref x) (k.hash w) adding f es t (spot t (k.hash w) (c + q)).j i (spot t (k.hash w) (c + (q + 1)))) Q E s := by
        unfold searchRest
        rw [ent_at R.cont he]
        dsimp only
        refine wpAny_bind (wpAny_holding ((nestedKind P w).eqBool (x := e.2) (y := k) hu ⟨ek.is, ek.low⟩ ⟨hx.is, hx.low⟩ ?_))
        refine wpAny_bind (wpAny_setState_of ho hd R.fit ?_)
        dsimp only
        have sl : t.slot (spot t (k.hash w) (c + q)).j = .live i := slot_live R.tab.ris hi
        by_cases kk : e.2 = k
        · have mem : k ∈ L.map (·.2) := List.mem_map.mpr ⟨e, em, kk⟩
          cases adding with
          | true =>
            refine wp_if_pos (by simp [kk]) ?_
            exact wpAny_pure (yes none mem (fun z => nomatch z))
          | false =>
            refine wp_if_neg (by simp) ?_
            try refine wpAny_bind (wpAny_pure ?_)
            rw [sameMem]
            dsimp only
            simp only [if_true, sl, ent_at R.cont he]
            refine wpAny_bind (wpAny_isSame_ref_self (wpAny_bind (wpAny_pure ?_)))
            simp only [if_true]
            refine wp_if_pos (by simp [kk]) ?_
            exact wpAny_pure (yes (some i) mem fun _ => rfl)
        · refine wp_if_neg (by simp [kk]) ?_
          try refine wpAny_bind (wpAny_pure ?_)
          rw [sameMem]
          dsimp only
          simp only [if_true, sl, ent_at R.cont he]
          refine wpAny_bind (wpAny_isSame_ref_self (wpAny_bind (wpAny_pure ?_)))
          simp only [if_true]
          refine wp_if_neg (by simp [kk]) ?_
          refine again (c + (q + 1)) _ rfl (by omega) (by omega) fun i0 e0 h0 k0 => ?_
          obtain ⟨d, d1, d2, d3⟩ := ahead i0 e0 h0 k0
          refine ⟨d, ?_, d2, d3⟩
          have hd0 : ¬ d < c + q := fun z => before (d - c) i0 (by omega) (by rw [nth_spot, show c + (d - c) = d by omega]; exact d3) ((R.hashAt h0).trans (by rw [k0]))
          have hd1 : d ≠ c + q := fun z => by
            rw [z] at d3
            have s0 : t.slot (spot t (k.hash w) (c + q)).j = .live i0 := slot_live R.tab.ris d3
            rw [sl] at s0
            injection s0 with s0
            rw [← s0, he] at h0
            exact kk ((congrArg Prod.snd (Option.some.inj h0)).trans k0)
          omega
      by_cases led : t.led = true
      · refine wp_if_neg (by simp [led]) ?_
        try refine wpAny_bind (wpAny_pure ?_)
        exact behind
      · refine wp_if_pos (by simp [led]) ?_
        refine wpAny_bind (hidden hx (fun y hy => ?_) ?_)
        · obtain ⟨z, hz, ez⟩ := List.mem_map.mp hy
          have hz2 : z ∈ es.toList := by
            have : z ∈ es ∧ z.1 = k.hash w := by simpa using hz
            simpa using this.1
          rw [R.cont] at hz2
          obtain ⟨e2, he2, eq2⟩ := List.mem_map.mp hz2
          exact ⟨e2.1, e2.2, by rw [← ez, ← eq2], R.keys e2 he2⟩
        · refine wp_if_neg (by decide) ?_
          try refine wpAny_bind (wpAny_pure ?_)
          exact behind
    · rw [pr, pg, nth_spot, show c + (K - c) = K by omega]
      dsimp only
      refine wpAny_pure (no fun hm => ?_)
      obtain ⟨e0, he0, k0⟩ := List.mem_map.mp hm
      obtain ⟨i0, hi0, eq0⟩ := List.getElem_of_mem he0
      have h00 : L[i0]? = some e0 := by rw [List.getElem?_eq_getElem hi0, eq0]
      obtain ⟨d, d1, d2, d3⟩ := ahead i0 e0 h00 k0
      exact before (d - c) i0 (by omega) (by rw [nth_spot, show c + (d - c) = d by omega]; exact d3) ((R.hashAt h00).trans (by rw [k0]))
/-- the search from its start -/
theorem seek_all (R : SetN P w s.heap a L es ep t) {x : Addr} {k : NestedKey} (hx : KAt s.heap k x) (hu : A.units + 8 < cLine) (adding : Bool) {Q : SetFound → Shared → Prop} (yes : ∀ r, k ∈ L.map (·.2) → (adding = false → r.isSome = true) → Q (.there r) s)
    (no : ∀ K, k ∉ L.map (·.2) → way t.mask (k.hash w) K ∉ t.place.toList → (∀ c, c < K → way t.mask (k.hash w) c ∈ t.place.toList) → Q (.free (way t.mask (k.hash w) K) false) s) :
    wpAny (model P w) A (setSearch a (.ref x) (k.hash w) adding) Q E s := by
  have ls := R.less
  obtain ⟨K, near, free, taken⟩ := R.tab.first (by rw [List.length_map]; omega) (k.hash w)
  have small : K < 100000 := by
    have : SetTable.turns t.mask ≤ 142 := by
      unfold SetTable.turns
      rcases R.tab.mok with e | e | e <;> omega
    omega
  unfold setSearch
  refine seek R hx hu adding near free taken yes (fun hn => no K hn free taken) 100000 0 none (spot_0 _) (Nat.zero_le _) (by omega) fun i e hi hk => ?_
  have il : i < t.place.toList.length := by
    rw [Array.length_toList, R.slots]
    exact (List.getElem?_eq_some_iff.mp hi).1
  have hj := List.getElem?_eq_getElem il
  obtain ⟨c, hc, ec⟩ := R.tab.before free (h := k.hash w) (i := i) (by rw [List.getElem?_map, hi, ← hk]; rfl) hj
  exact ⟨c, Nat.zero_le _, hc, by rw [hj, ec]⟩
end
end Pyr

set_option Elab.async false
set_option autoImplicit false
set_option linter.all false
set_option maxRecDepth 100000
set_option maxHeartbeats 4000000
/-! adding to a set of keys of any depth -/
namespace Pyr
open PySem PySem.Spec PyProof.Rows L2
theorem all_slots {α : Type} (L : List α) : (List.range L.length).filterMap (fun i => L[i]?) = L := by
  have e : (List.range L.length).map (fun i => L[i]?) = L.map some := by
    refine List.ext_getElem? fun i => ?_
    rw [List.getElem?_map, List.getElem?_map]
    by_cases h : i < L.length
    · rw [List.getElem?_range h, List.getElem?_eq_getElem h]
      simp [List.getElem?_eq_getElem h]
    · rw [List.getElem?_eq_none (Nat.le_of_not_lt h), List.getElem?_eq_none (by rw [List.length_range]; exact Nat.le_of_not_lt h)]
      rfl
  have e2 := congrArg (List.filterMap id) e
  rw [List.filterMap_map, List.filterMap_map] at e2
  simpa using e2
section
variable {P : Program} {w : World} {A : Around} {E : Value → Shared → Prop} {s : Shared} {a : Addr} {L : List (Addr × NestedKey)} {es : Array (Int × Value)} {ep : Nat} {t : SetTable}
theorem KAt.past {h h' : Heap} {k : NestedKey} {b : Addr} (x : KAt h k b) {o : Obj} (ho : h.get? a = some o) (hd : o.data = .set es ep t) (hs : Heap.SameBut a h h') : KAt h' k b :=
  ⟨NestedIs.at (fun c u vs n hc hu => by
    refine (hs.2 c fun z => ?_).trans hc
    rw [z, ho] at hc
    cases hc
    rw [hd] at hu
    cases hu) k _ x.is, x.low⟩
theorem KAt.keep {h h' : Heap} {k : NestedKey} {b : Addr} (x : KAt h k b) (kp : ∀ c o, h.get? c = some o → h'.get? c = some o) : KAt h' k b :=
  ⟨NestedIs.at (fun c u _ _ hc _ => kp c u hc) k _ x.is, x.low⟩
theorem ent_pick (hc : es.toList = entN w L) (l : List Nat) : l.filterMap (fun i => es[i]?) = entN w (l.filterMap fun i => L[i]?) := by
  unfold entN
  rw [List.map_filterMap]
  congr 1
  funext i
  rw [← Array.getElem?_toList, hc, entN, List.getElem?_map]
theorem hash_pick (hc : es.toList = entN w L) : ∀ l : List Nat, (∀ i ∈ l, i < L.length) → ((l.filterMap fun i => L[i]?).map fun e => e.2.hash w) = l.map fun i => (es.map (·.1)).getD i 0
  | [], _ => rfl
  | i :: l, h => by
    have hi := h i List.mem_cons_self
    have g : L[i]? = some L[i] := List.getElem?_eq_getElem hi
    have e : (es.map (·.1))[i]? = some ((L[i]).2.hash w) := by
      rw [Array.getElem?_map, ent_at hc g]
      rfl
    rw [List.filterMap_cons_some g, List.map_cons, List.map_cons, hash_pick hc l fun j hj => h j (List.mem_cons_of_mem _ hj)]
    congr 1
    simp [Array.getD_eq_getD_getElem?, e]
theorem ent_in (hc : es.toList = entN w L) (p : Nat) (x : Addr) (k : NestedKey) : (SetTable.insertAt es p (k.hash w, Value.ref x)).toList = entN w (L.take p ++ (x, k) :: L.drop p) := by
  rw [SetTable.toList_insertAt, hc]
  simp [entN, List.map_take, List.map_drop]
/-- laid anew, larger -/
theorem spread {o : Obj} (ho : s.heap.get? a = some o) (hex : o.ExactSet) (hd : o.data = .set es ep t) (hc : es.toList = entN w L) (hp : t.place.size = L.length) (hdm : t.dummies = #[]) (hm : L.length ≤ t.mask) (once : (L.map (·.2)).Nodup) (keys : ∀ e ∈ L, KAt s.heap e.2 e.1)
    (made : w.params.followText "set-order" = true ∨ t.led = true) (few : L.length < 64) {wanted M : Nat} (hw : SetTable.sizeAbove wanted = M + 1) (hM : MaskOk M) (hn : L.length * 5 < M * 3) {Q : Unit → Shared → Prop}
    (q : ∀ h' L' es' ep' t', Heap.SameBut a s.heap h' → SetN P w h' a L' es' ep' t' → L'.Perm L → Q () { s with heap := h' }) : wpAny (model P w) A (setRelay a wanted) Q E s := by
  have sz := ent_len hc
  have M2 : M ≤ 127 := by rcases hM with e | e | e <;> omega
  obtain ⟨t2, order, e, pm, T, em, el, _, _⟩ := relaid_ok t (hs := es.map (·.1)) (wanted := wanted) (by rw [hw]; exact Nat.add_sub_cancel M 1) hM (by rw [Array.size_map, sz]; omega)
  rw [Array.size_map, sz] at pm
  have inr : ∀ i ∈ order.toList, i < L.length := fun i hi => List.mem_range.mp (pm.mem_iff.mp hi)
  rw [← hash_pick hc order.toList inr] at T
  have c2 : (order.filterMap (es[·]?)).toList = entN w (order.toList.filterMap fun i => L[i]?) := by
    rw [← ent_pick hc]
    simp
  have pm2 : (order.toList.filterMap fun i => L[i]?).Perm L := by
    have := pm.filterMap fun i => L[i]?
    rwa [all_slots] at this
  generalize (order.toList.filterMap fun i => L[i]?) = L2 at T c2 pm2
  have z2 := ent_len c2
  rw [pm2.length_eq] at z2
  rw [setRelay_eq]
  refine wpAny_bind (wpAny_setState_of ho hd (by rw [sz]; exact fits_of hp hdm hm) ?_)
  dsimp only
  refine wp_if_neg (by rw [hw, sizeLine_eq]; omega) ?_
  try refine wpAny_bind (wpAny_pure ?_)
  rw [e]
  dsimp only
  refine wpAny_bind ?_
  refine wp_if_neg (by rw [z2, sz]; simp) ?_
  try refine wpAny_bind (wpAny_pure ?_)
  refine wpAny_pure ?_
  dsimp only
  refine wpAny_storeSet_of ho hd ?_ (by rw [z2, sizeLine_eq]; omega)
  have sb : Heap.SameBut a s.heap (s.heap.update a (Obj.putSet (order.filterMap (es[·]?)) t2)) := Heap.SameBut.update ..
  refine q _ L2 _ (ep + 1) t2 sb ⟨⟨_, store_at ho hd, ⟨hex.1, hex.2.1, hex.2.2⟩, rfl⟩, c2, T, (pm2.map (·.2)).nodup_iff.mpr once, fun e he => (keys e (pm2.mem_iff.mp he)).past ho hd sb, by rw [el]; exact made, ?_, by rw [pm2.length_eq]; exact few⟩ pm2
  rw [pm2.length_eq, em]
  exact hn
theorem grown_at {n m : Nat} (h0 : n < 64) (hm : MaskOk m) (h1 : n * 5 < m * 3) (h2 : (n + 1) * 5 ≥ m * 3) (h3 : n + 1 < 64) : ∃ M, SetTable.sizeAbove (SetTable.grown (n + 1)) = M + 1 ∧ MaskOk M ∧ (n + 1) * 5 < M * 3 := by
  rcases hm with e | e | e
  · have : n = 4 := by omega
    subst this
    exact ⟨31, size_20, .inr (.inl rfl), by decide⟩
  · have : n = 18 := by omega
    subst this
    exact ⟨127, size_76, .inr (.inr rfl), by decide⟩
  · omega
theorem put_in (R : SetN P w s.heap a L es ep t) {x : Addr} {k : NestedKey} (hx : KAt s.heap k x) (hu : A.units + 8 < cLine) (room : L.length + 1 < 64) {Q : Bool → Shared → Prop}
    (q : ∀ b h' L' es' ep' t', Heap.SameBut a s.heap h' → SetN P w h' a L' es' ep' t' → (k ∈ L.map (·.2) → L' = L) → (k ∉ L.map (·.2) → L'.Perm ((x, k) :: L)) → Q b { s with heap := h' }) :
    wpAny (model P w) A (setAddHashed a (.ref x) (k.hash w)) Q E s := by
  obtain ⟨o, ho, hex, hd⟩ := R.here
  unfold setAddHashed
  refine wpAny_holding ?_
  rw [show (100000 : Nat) = 99999 + 1 from rfl, setAddHashedIn_succ]
  refine wpAny_bind (wpAny_setState_of ho hd R.fit ?_)
  dsimp only
  refine wp_if_neg (by simp [byScan, Value.scannable]) ?_
  try refine wpAny_bind (wpAny_pure ?_)
  refine wpAny_bind (seek_all R hx hu true (fun r hm _ => ?_) fun K hm free taken => ?_)
  · dsimp only
    exact wpAny_pure (q false s.heap L es ep t (Heap.SameBut.refl a s.heap) R (fun _ => rfl) fun z => absurd hm z)
  dsimp only
  refine wpAny_bind (wpAny_setState_of ho hd R.fit ?_)
  dsimp only
  obtain ⟨c1, _, T, c4, c5, _, _, _, c9⟩ := R.tab.put free taken
  generalize way t.mask (k.hash w) K = j at c1 T c4 c5 c9 ⊢
  generalize t.put j = pt at c1 T c4 c5 c9 ⊢
  obtain ⟨t1, p⟩ := pt
  dsimp only at c1 T c4 c5 c9 ⊢
  rw [← c1] at T
  rw [List.length_map] at c9
  have hc1 := ent_in (w := w) R.cont p x k
  have pm : (L.take p ++ (x, k) :: L.drop p).Perm ((x, k) :: L) := by
    have h := (List.perm_middle (a := (x, k)) (l₁ := L.take p) (l₂ := L.drop p))
    rwa [List.take_append_drop] at h
  have T1 : TabOk t1 ((L.take p ++ (x, k) :: L.drop p).map fun e => e.2.hash w) := by
    rw [List.map_append, List.map_cons, List.map_take, List.map_drop]
    exact T
  have hl : (L.take p ++ (x, k) :: L.drop p).length = L.length + 1 := pm.length_eq
  have hz := ent_len hc1
  generalize SetTable.insertAt es p (k.hash w, Value.ref x) = es1 at hc1 hz ⊢
  generalize L.take p ++ (x, k) :: L.drop p = L1 at pm T1 hl hc1 hz
  have once1 : (L1.map (·.2)).Nodup := (pm.map (·.2)).nodup_iff.mpr (List.nodup_cons.mpr ⟨hm, R.once⟩)
  have es0 := ent_len R.cont
  have less := R.less
  -- whatever the answer of the question by value: the same table but for one mark
  have rest : ∀ t2 : SetTable, t2.place = t1.place → t2.mask = t1.mask → t2.led = t1.led → t2.dummies = t1.dummies → t2.tooFull = t1.tooFull → TabOk t2 (L1.map fun e => e.2.hash w) →
      wpAny (model P w) A (do
        storeSet a es1 t2
        if !false && t2.tooFull then setRelay a (SetTable.grown (es.size + 1))
        return true) Q E s := by
    intro t2 e1 e2 e3 e4 e5 T2
    refine wpAny_bind (wpAny_storeSet_of ho hd ?_ (by rw [hz, hl, sizeLine_eq]; omega))
    have sb : Heap.SameBut a s.heap (s.heap.update a (Obj.putSet es1 t2)) := Heap.SameBut.update ..
    have ho1 := store_at (es' := es1) (t' := t2) ho hd
    generalize s.heap.update a (Obj.putSet es1 t2) = h1 at sb ho1 ⊢
    have keys1 : ∀ e ∈ L1, KAt h1 e.2 e.1 := fun e he => by
      rcases List.mem_cons.mp (pm.mem_iff.mp he) with z | z
      · rw [z]
        exact hx.past ho hd sb
      · exact (R.keys e z).past ho hd sb
    have made1 : w.params.followText "set-order" = true ∨ t2.led = true := by rw [e3, c5]; exact R.made
    have full : t2.tooFull = decide ((L.length + 1) * 5 ≥ t.mask * 3) := by
      have f : t2.fill = L.length + 1 := by
        rw [← c9]
        unfold SetTable.fill
        rw [e1, e4]
      unfold SetTable.tooFull
      rw [f, e2, c4]
    by_cases hf : t2.tooFull = true
    · first
        | (refine wpAny_bind ?_; refine wp_if_pos (by simp [hf]) ?_)
        | (refine wp_if_pos (by simp [hf]) ?_; refine wpAny_bind ?_)
      rw [full, decide_eq_true_eq] at hf
      obtain ⟨M, m1, m2, m3⟩ := grown_at R.few R.tab.mok less hf room
      refine spread (s := { s with heap := h1 }) (M := M) ho1 ⟨hex.1, hex.2.1, hex.2.2⟩ rfl hc1 (by have := T2.sz; rwa [List.length_map] at this) T2.dm ?_ once1 keys1 made1 (by rw [hl]; exact room) (by rw [es0]; exact m1) m2 (by rw [hl]; exact m3) fun h2 L2 es2 ep2 t2' sb2 R2 pm2 => ?_
      · rw [e2, c4, hl]
        rcases R.tab.mok with e | e | e <;> omega
      · exact wpAny_pure (q true h2 L2 es2 ep2 t2' (sb.trans sb2) R2 (fun z => absurd z hm) fun _ => pm2.trans pm)
    · first
        | refine wp_if_neg (by simp [hf]) ?_
        | (refine wpAny_bind ?_; refine wp_if_neg (by simp [hf]) ?_; refine wpAny_pure ?_)
      rw [full, decide_eq_true_eq] at hf
      refine wpAny_pure (q true h1 L1 es1 (ep + 1) t2 sb ⟨⟨_, ho1, ⟨hex.1, hex.2.1, hex.2.2⟩, rfl⟩, hc1, T2, once1, keys1, made1, ?_, by rw [hl]; exact room⟩ (fun z => absurd z hm) fun _ => pm)
      rw [hl, e2, c4]
      omega
  by_cases pl : t1.plain = true
  · first
      | (refine wpAny_bind ?_; refine wp_if_pos pl ?_; refine asked_key k _ 8 s hx.is hx.low _ _ _ fun b => ?_)
      | refine wp_if_pos pl (wpAny_bind (asked_key k _ 8 s hx.is hx.low _ _ _ fun b => ?_))
    cases b
    · exact rest { t1 with plain := false } rfl rfl rfl rfl rfl ⟨T1.ris, T1.dm, T1.sz, T1.mok, T1.bd, T1.reach⟩
    · exact rest t1 rfl rfl rfl rfl rfl T1
  · first
      | (refine wpAny_bind ?_; refine wp_if_neg pl ?_; refine wpAny_pure ?_)
      | refine wp_if_neg pl (wpAny_bind (wpAny_pure ?_))
    exact rest t1 rfl rfl rfl rfl rfl T1
end
end Pyr

set_option Elab.async false
set_option autoImplicit false
set_option linter.all false
set_option maxRecDepth 100000
set_option maxHeartbeats 4000000
/-! a set of keys of any depth as an object; set.add; sorted -/
namespace Pyr
open PySem PySem.Spec PyProof.Rows L2 Evl
abbrev D := PyData
/-! ### data that may stand in a set -/
mutual
def keyB : D → Bool
  | .int _ => true
  | .str _ => true
  | .tuple ds => keysB ds
  | _ => false
def keysB : List D → Bool
  | [] => true
  | d :: ds => keyB d && keysB ds
end
mutual
/-- the key of a datum -/
def nk : D → NestedKey
  | .int i => .num i
  | .str x => .text x
  | .tuple ds => .tup (nks ds)
  | _ => .none
def nks : List D → List NestedKey
  | [] => []
  | d :: ds => nk d :: nks ds
end
mutual
theorem nk_inj : ∀ x y : D, keyB x = true → keyB y = true → nk x = nk y → x = y
  | .int i, y, _, hy, e => by cases y <;> simp [nk, keyB] at e hy ⊢; exact e
  | .str i, y, _, hy, e => by cases y <;> simp [nk, keyB] at e hy ⊢; exact e
  | .tuple xs, y, hx, hy, e => by
    cases y <;> simp [nk, keyB] at e hy hx ⊢
    exact nks_inj xs _ hx hy e
  | .none, _, hx, _, _ => by simp [keyB] at hx
  | .bool _, _, hx, _, _ => by simp [keyB] at hx
  | .list _, _, hx, _, _ => by simp [keyB] at hx
  | .dict _, _, hx, _, _ => by simp [keyB] at hx
theorem nks_inj : ∀ xs ys : List D, keysB xs = true → keysB ys = true → nks xs = nks ys → xs = ys
  | [], [], _, _, _ => rfl
  | [], _ :: _, _, _, e => by simp [nks] at e
  | _ :: _, [], _, _, e => by simp [nks] at e
  | x :: xs, y :: ys, hx, hy, e => by
    simp only [nks, keysB, Bool.and_eq_true, List.cons.injEq] at e hx hy
    rw [nk_inj x y hx.1 hy.1 e.1, nks_inj xs ys hx.2 hy.2 e.2]
end
mutual
theorem nk_depth : ∀ x : D, (nk x).depth ≤ x.depth
  | .int i => Nat.zero_le _
  | .str i => Nat.zero_le _
  | .none => Nat.zero_le _
  | .bool _ => Nat.zero_le _
  | .list _ => Nat.zero_le _
  | .dict _ => Nat.zero_le _
  | .tuple xs => by
    have := nks_depth xs
    simp only [nk, NestedKey.depth, PyData.depth]
    omega
theorem nks_depth : ∀ xs : List D, NestedKey.depthAll (nks xs) ≤ PyData.depthAll xs
  | [] => Nat.zero_le _
  | x :: xs => by
    have h1 := nk_depth x
    have h2 := nks_depth xs
    simp only [nks, NestedKey.depthAll, PyData.depthAll]
    omega
end

theorem sub_len {α : Type} [DecidableEq α] : ∀ (l m : List α), l.Nodup → (∀ x ∈ l, x ∈ m) → l.length ≤ m.length
  | [], _, _, _ => Nat.zero_le _
  | x :: l, m, hn, h => by
    obtain ⟨h1, h2⟩ := List.nodup_cons.mp hn
    have hx := h x List.mem_cons_self
    have ih := sub_len l (m.erase x) h2 fun y hy => (List.mem_erase_of_ne fun e => h1 (by rw [← e]; exact hy)).mpr (h y (List.mem_cons_of_mem _ hy))
    rw [List.length_erase_of_mem hx] at ih
    have := List.length_pos_of_mem hx
    simp only [List.length_cons]
    omega
/-! ### the object -/
structure KeyS (P : Program) (w : World) (h : Heap) (a : Addr) (ps : List (Addr × NestedKey)) : Prop where
  ex : ∃ (L : List (Addr × NestedKey)) (es : Array (Int × Value)) (ep : Nat) (t : SetTable), (∃ o, h.get? a = some o ∧ o.ExactSet ∧ o.data = .set es ep t) ∧ es.toList = entN w L ∧ TabOk t (L.map fun e => e.2.hash w) ∧ (L.map (·.2)).Nodup ∧
    (w.params.followText "set-order" = true ∨ t.led = true) ∧ L.length * 5 < t.mask * 3 ∧ L.length < 64 ∧ (∀ e ∈ L, e ∈ ps) ∧ ∀ e ∈ ps, e.2 ∈ L.map (·.2)
section
variable {P : Program} {w : World} {h h' : Heap} {a : Addr} {ps : List (Addr × NestedKey)}
theorem KeyS.keep (x : KeyS P w h a ps) (k : ∀ o, h.get? a = some o → h'.get? a = some o) : KeyS P w h' a ps := by
  obtain ⟨L, es, ep, t, ⟨o, ho, q⟩, r⟩ := x.ex
  exact ⟨L, es, ep, t, ⟨o, k o ho, q⟩, r⟩
theorem KeyS.full (x : KeyS P w h a ps) (k : ∀ e ∈ ps, KAt h e.2 e.1) : ∃ L es ep t, SetN P w h a L es ep t ∧ (∀ e ∈ L, e ∈ ps) ∧ ∀ e ∈ ps, e.2 ∈ L.map (·.2) := by
  obtain ⟨L, es, ep, t, q1, q2, q3, q4, q5, q6, q7, q8, q9⟩ := x.ex
  exact ⟨L, es, ep, t, ⟨q1, q2, q3, q4, fun e he => k e (q8 e he), q5, q6, q7⟩, q8, q9⟩
theorem SetN.bare {L : List (Addr × NestedKey)} {es : Array (Int × Value)} {ep : Nat} {t : SetTable} (R : SetN P w h a L es ep t) (h1 : ∀ e ∈ L, e ∈ ps) (h2 : ∀ e ∈ ps, e.2 ∈ L.map (·.2)) : KeyS P w h a ps :=
  ⟨L, es, ep, t, R.here, R.cont, R.tab, R.once, R.made, R.less, R.few, h1, h2⟩
theorem keyS_fresh (w : World) (h : Heap) : KeyS P w (h.push { cls := .type "set", dict := none, data := .set #[] 0 (.fresh 0 0 (!w.params.followText "set-order")) }) h.objs.size [] := by
  refine ⟨[], #[], 0, _, ⟨_, Heap.get?_push_size _ rfl, ⟨rfl, rfl, rfl⟩, rfl⟩, rfl, ⟨List.Pairwise.nil, rfl, rfl, .inl rfl, fun x hx => (by cases hx), fun i k j hi => (by simp at hi)⟩, List.nodup_nil, ?_, ?_, by decide, fun e he => (by cases he), fun e he => (by cases he)⟩
  · show _ ∨ (!w.params.followText "set-order") = true
    cases w.params.followText "set-order"
    · exact .inr rfl
    · exact .inl rfl
  · show 0 * 5 < 7 * 3
    decide
def keyO (P : Program) (w : World) (a : Addr) (ps : List (Addr × NestedKey)) : HO := .ext fun h => KeyS P w h a ps
theorem keyO_ok {H : Hp} (x : KeyS P w h a ps) : ObjOk P w H h a (keyO P w a ps) := by
  obtain ⟨L, es, ep, t, ⟨o, ho, q⟩, r⟩ := id x.ex
  exact ⟨x, ⟨o, ho⟩, fun h1 h2 z k => KeyS.keep z k⟩
variable {A : Around} {E : Value → Shared → Prop} {s : Shared}
theorem set_add {x : Addr} {k : NestedKey} {Q : Value → Shared → Prop} (S : KeyS P w s.heap a ps) (hp : ∀ e ∈ ps, KAt s.heap e.2 e.1) (hx : KAt s.heap k x) (hu : A.units + 40 < cLine) (room : ps.length + 1 < 64)
    (q : ∀ g tk, Heap.SameBut a s.heap g → KeyS P w g a (ps ++ [(x, k)]) → Q .none { s with heap := g, toks := tk }) : wpAny (model P w) A (call (.builtin "set.add") [.ref a, .ref x]) Q E s := by
  obtain ⟨L, es, ep, t, R, sub, all⟩ := S.full hp
  have ty : s.TypeIs (.ref a) "set" := by
    obtain ⟨o, ho, hc, _⟩ := R.here
    exact ⟨o, ho, hc.1⟩
  have few : L.length ≤ ps.length := sub_len L ps (nodup_of_map R.once) sub
  refine wpAny_call_entry PySem.F.slot_set_add ty PySem.F.entry_set_add ?_ (PySem.F.args_set_add_2 _ _)
  unfold Builtin.«set.add» Builtin.Frozenset.oneOther
  simp only [List.isEmpty_nil, bind_assoc]
  unfold Builtin.Frozenset.addrOf setAdd
  refine wpAny_bind (wpAny_pure ?_)
  try dsimp only
  refine wpAny_bind (wpAny_pure ?_)
  try dsimp only
  refine wpAny_bind ?_
  refine wpAny_holding ?_
  have lo := hx.low
  refine wpAny_bind (pyHash_key k _ _ _ _ hx.is (by simp only [Around.in1_units]; omega) ?_)
  refine put_in (s := { s with toks := s.toks + k.draws }) R hx (by simp only [Around.in1_units]; omega) (by omega) fun b g L2 es2 ep2 t2 sb R2 old new => ?_
  show wpAny _ _ (ret Value.none) _ _ _
  refine wpAny_pure ⟨_, rfl, q g _ sb (R2.bare ?_ ?_)⟩
  · intro e he
    by_cases hm : k ∈ L.map (·.2)
    · rw [old hm] at he
      exact List.mem_append_left _ (sub e he)
    · rcases List.mem_cons.mp ((new hm).mem_iff.mp he) with z | z
      · rw [z]
        exact List.mem_append_right _ List.mem_cons_self
      · exact List.mem_append_left _ (sub e z)
  · intro e he
    have tail : ∀ e ∈ L.map (·.2), e ∈ L2.map (·.2) := fun e he => by
      by_cases hm : k ∈ L.map (·.2)
      · rw [old hm]
        exact he
      · exact ((new hm).map (·.2)).mem_iff.mpr (List.mem_cons_of_mem _ he)
    rcases List.mem_append.mp he with z | z
    · exact tail _ (all e z)
    · rw [List.mem_singleton.mp z]
      by_cases hm : k ∈ L.map (·.2)
      · exact tail _ hm
      · exact ((new hm).map (·.2)).mem_iff.mpr List.mem_cons_self
end
end Pyr

set_option Elab.async false
set_option autoImplicit false
set_option linter.all false
set_option maxRecDepth 100000
set_option maxHeartbeats 4000000
/-! set(xs), xs a list of keys of any depth; x in the set -/
namespace Pyr
open PySem PySem.Spec PyProof.Rows L2
section
variable {P : Program} {w : World} {A : Around} {E : Value → Shared → Prop} {s : Shared} {a : Addr} {ps : List (Addr × NestedKey)}
theorem KeyS.ty (S : KeyS P w s.heap a ps) : s.TypeIs (.ref a) "set" := by
  obtain ⟨_, _, _, _, ⟨o, ho, hc, _⟩, _⟩ := S.ex
  exact ⟨o, ho, hc.1⟩
theorem setAdd_in {x : Addr} {k : NestedKey} {Q : Bool → Shared → Prop} (S : KeyS P w s.heap a ps) (hp : ∀ e ∈ ps, KAt s.heap e.2 e.1) (hx : KAt s.heap k x) (hu : A.units + 30 < cLine) (room : ps.length + 1 < 64)
    (q : ∀ b g tk, s.toks ≤ tk → Heap.SameBut a s.heap g → KeyS P w g a (ps ++ [(x, k)]) → Q b { s with heap := g, toks := tk }) : wpAny (model P w) A (setAdd a (.ref x)) Q E s := by
  obtain ⟨L, es, ep, t, R, sub, all⟩ := S.full hp
  have few : L.length ≤ ps.length := sub_len L ps (nodup_of_map R.once) sub
  have lo := hx.low
  unfold setAdd
  refine wpAny_holding ?_
  refine wpAny_bind (pyHash_key k _ _ _ _ hx.is (by omega) ?_)
  refine put_in (s := { s with toks := s.toks + k.draws }) R hx (by omega) (by omega) fun b g L2 es2 ep2 t2 sb R2 old new => q b g _ (Nat.le_add_right _ _) sb (R2.bare ?_ ?_)
  · intro e he
    by_cases hm : k ∈ L.map (·.2)
    · rw [old hm] at he
      exact List.mem_append_left _ (sub e he)
    · rcases List.mem_cons.mp ((new hm).mem_iff.mp he) with z | z
      · rw [z]
        exact List.mem_append_right _ List.mem_cons_self
      · exact List.mem_append_left _ (sub e z)
  · intro e he
    have tail : ∀ e ∈ L.map (·.2), e ∈ L2.map (·.2) := fun e he => by
      by_cases hm : k ∈ L.map (·.2)
      · rw [old hm]
        exact he
      · exact ((new hm).map (·.2)).mem_iff.mpr (List.mem_cons_of_mem _ he)
    rcases List.mem_append.mp he with z | z
    · exact tail _ (all e z)
    · rw [List.mem_singleton.mp z]
      by_cases hm : k ∈ L.map (·.2)
      · exact tail _ hm
      · exact ((new hm).map (·.2)).mem_iff.mpr List.mem_cons_self
/-- is it there? -/
theorem found {x : Addr} {k : NestedKey} {Q : Bool → Shared → Prop} (S : KeyS P w s.heap a ps) (hp : ∀ e ∈ ps, KAt s.heap e.2 e.1) (hx : KAt s.heap k x) (hu : A.units + 30 < cLine) (q : ∀ tk, Q (decide (k ∈ ps.map (·.2))) { s with toks := tk }) :
    wpAny (model P w) A (setContains a (.ref x)) Q E s := by
  obtain ⟨L, es, ep, t, R, sub, all⟩ := S.full hp
  have lo := hx.low
  have same : k ∈ L.map (·.2) ↔ k ∈ ps.map (·.2) := by
    constructor
    · intro h
      obtain ⟨e, he, ee⟩ := List.mem_map.mp h
      exact List.mem_map.mpr ⟨e, sub e he, ee⟩
    · intro h
      obtain ⟨e, he, ee⟩ := List.mem_map.mp h
      rw [← ee]
      exact all e he
  obtain ⟨o, ho, hex, hd⟩ := R.here
  unfold setContains
  refine wpAny_holding ?_
  refine wpAny_bind (pyHash_key k _ _ _ _ hx.is (by omega) ?_)
  unfold setFind
  rw [show (100000 : Nat) = 99999 + 1 from rfl]
  unfold setFindIn
  refine wpAny_bind (wpAny_bind (wpAny_setState_of (s := { s with toks := s.toks + k.draws }) ho hd R.fit ?_))
  dsimp only
  refine wp_if_neg (by simp [byScan, Value.scannable]) ?_
  try refine wpAny_bind (wpAny_pure ?_)
  refine wpAny_bind (seek_all (s := { s with toks := s.toks + k.draws }) R hx (by omega) false (fun r hm hr => ?_) fun K hm free taken => ?_)
  · dsimp only
    refine wpAny_pure (wpAny_pure ?_)
    have := q (s.toks + k.draws)
    rw [decide_eq_true (same.mp hm)] at this
    rw [hr rfl]
    exact this
  · dsimp only
    refine wpAny_pure (wpAny_pure ?_)
    have := q (s.toks + k.draws)
    rw [decide_eq_false fun z => hm (same.mpr z)] at this
    exact this
/-- x in the set, x not in the set -/
theorem in_keys {neg : Bool} {x : Addr} {k : NestedKey} {Q : Value → Shared → Prop} (S : KeyS P w s.heap a ps) (hp : ∀ e ∈ ps, KAt s.heap e.2 e.1) (hx : KAt s.heap k x) (hu : A.units + 40 < cLine) (q : ∀ tk, Q (.bool (neg != decide (k ∈ ps.map (·.2)))) { s with toks := tk }) :
    wpAny (model P w) A (compareOp (if neg then .NotIn else .In) (.ref x) (.ref a)) Q E s := by
  have ask : ∀ Q' : Bool → Shared → Prop, (∀ tk, Q' (decide (k ∈ ps.map (·.2))) { s with toks := tk }) → wpAny (model P w) A (contains (.ref a) (.ref x)) Q' E s := by
    intro Q' q'
    unfold contains
    try with_reducible refine wpAny_holding ?_
    refine wpAny_bind (wpAny_specialOf S.ty PySem.F.slot_set_contains.lookup ?_)
    show wpAny _ _ (if (some (Value.builtin "set.__contains__") == some Value.none) = true then _ else _) _ E s
    rw [if_neg (by rw [beq_builtin_none]; exact Bool.false_ne_true)]
    refine wpAny_bind (wpAny_callSpecialUnlessNone?_slot (name := Str.ofString "__contains__") S.ty PySem.F.slot_set_contains (wpAny_call_entry PySem.F.slot_set_contains S.ty entry_set_contains ?_ (PySem.F.args_set_contains_2 _ _)))
    unfold Builtin.«frozenset.__contains__» Builtin.Frozenset.oneOther
    simp only [List.isEmpty_nil, bind_assoc]
    unfold Builtin.Frozenset.addrOf Builtin.Frozenset.withSetAsKey
    refine wpAny_bind (wpAny_pure ?_)
    try dsimp only
    refine wpAny_bind (wpAny_pure ?_)
    try dsimp only
    refine wpAny_bind (wpAny_tryCatch ?_)
    refine found S hp hx (by simp only [Around.in1_units]; omega) fun tk => ?_
    show wpAny _ _ (ret (Value.bool _)) _ _ _
    exact wpAny_pure ⟨_, rfl, wpAny_truthy_bool (q' tk)⟩
  cases neg with
  | true =>
    show wpAny _ _ (do return .bool (!(← contains (.ref a) (.ref x)))) Q E s
    refine wpAny_bind (ask _ fun tk => wpAny_pure ?_)
    have := q tk
    rwa [Bool.true_bne] at this
  | false =>
    show wpAny _ _ (do return .bool (← contains (.ref a) (.ref x))) Q E s
    refine wpAny_bind (ask _ fun tk => wpAny_pure ?_)
    have := q tk
    rwa [Bool.false_bne] at this
end
section
variable {prog : Program} {w : World} {A : Around} {R : Result → Shared → Prop} {I : Addr} {fp wr : List Addr} {G : Array GenState → Array GenState → Prop} {n : Nat} {Pi : Nat → Value → Prop} {St : Nat → Shared → Prop}
theorem upd_loopK (W : WalksS prog w A.in1 I fp wr G n Pi St) (S : Addr) (hS : S ∉ fp) (ps : List (Addr × NestedKey)) (hx : ps.length = n) (room : n < 64) (hu : A.units + 60 < cLine) (hv : ∀ i v, Pi i v → ∃ e, ps[i]? = some e ∧ v = .ref e.1)
    (h0 : Heap) (hk : ∀ e ∈ ps, KAt h0 e.2 e.1) (off : ∀ b o, h0.get? b = some o → b ≠ S ∧ b ∉ wr) :
    ∀ (m i : Nat) (s : Shared), i + m = n → St i s → (∀ b o, h0.get? b = some o → s.heap.get? b = some o) → KeyS prog w s.heap S (ps.take i) → (∀ s', Moved (S :: wr) G s s' → KeyS prog w s'.heap S ps → R (.ok (.ret .none)) s') → codeAny (model prog w) A (.builtin "set.update.loop" ⟨[.ref S, .ref I], []⟩) R s := by
  have out : S ∉ wr := fun z => hS (W.sub _ z)
  have more : ∀ b ∈ wr, b ∈ S :: wr := fun b z => List.mem_cons_of_mem _ z
  intro m
  induction m with
  | zero =>
    intro i s hi st kp hT q
    have ei : i = n := by omega
    subst ei
    rw [← hx, List.take_length] at hT
    refine codeAny_builtin PyProof.Rows.F.entry_set_update_loop ?_
    rw [Around.under_plainId PyProof.Rows.F.plain_set_update_loop _]
    show wpAny _ A.in1 (pyNext (.ref I) >>= _) _ _ s
    refine wpAny_bind (W.done s _ _ st fun u hm => ?_)
    show wpAny _ A.in1 (ret Value.none) _ _ u
    exact wpAny_pure (q u (hm.mono more) (hT.keep fun o ho => hm.heap S _ out ho))
  | succ m ih =>
    intro i s hi st kp hT q
    have lt : i < n := by omega
    refine codeAny_builtin PyProof.Rows.F.entry_set_update_loop ?_
    rw [Around.under_plainId PyProof.Rows.F.plain_set_update_loop _]
    show wpAny _ A.in1 (pyNext (.ref I) >>= _) _ _ s
    refine wpAny_bind (W.item i s _ _ lt st fun v u hp st2 hm => ?_)
    obtain ⟨e, he, rfl⟩ := hv i v hp
    have hT := hT.keep (h' := u.heap) fun o ho => hm.heap S _ out ho
    have ku : ∀ b o, h0.get? b = some o → u.heap.get? b = some o := fun b o hb => hm.heap b _ (off b o hb).2 (kp b o hb)
    have em := List.mem_of_getElem? he
    show wpAny _ A.in1 (holding [Value.ref e.1] (setAdd S (.ref e.1)) >>= _) _ _ u
    have il : i < ps.length := by omega
    refine wpAny_bind (wpAny_holding (setAdd_in (k := e.2) hT (fun f hf => (hk f (List.mem_of_mem_take hf)).keep ku) ((hk e em).keep ku) (by simp only [Around.in1_units]; omega) (by rw [List.length_take]; omega) fun b g tk tle same new => ?_))
    have nx : KeyS prog w g S (ps.take (i + 1)) := by
      have e1 : ps[i] = e := Option.some.inj ((List.getElem?_eq_getElem il).symm.trans he)
      rw [List.take_succ_eq_append_getElem il, e1]
      exact new
    refine wpAny_pure ⟨plainId_quiet PyProof.Rows.F.plain_set_update_loop _, ih (i + 1) _ (by omega) (W.frame _ u _ _ st2 tle fun b hb o e => ?_) (fun b o hb => (same.2 b (off b o hb).1).trans (ku b o hb)) nx fun u2 hm2 hT2 => ?_⟩
    · rw [same.2 b fun z : b = S => hS (by rw [← z]; exact hb)]
      exact e
    · refine q u2 (Moved.trans W.gtrans ((hm.mono more).then_heap tle fun b o hb e => ?_) hm2) hT2
      rw [same.2 b fun z : b = S => hb (by rw [z]; exact List.mem_cons_self)]
      exact e
end
section
variable {prog : Program} {w : World} {A : Around} {E : Value → Shared → Prop} {s : Shared}
theorem set_of_keys {l : Addr} {its : Array Value} {ps : List (Addr × NestedKey)} {Q : Value → Shared → Prop} (hh : A.handled = none) (hl : s.heap.IsList l its) (hi : its.toList = ps.map fun e => Value.ref e.1) (hk : ∀ e ∈ ps, KAt s.heap e.2 e.1) (room : ps.length < 64) (hu : A.units + 65 < cLine)
    (q : ∀ (g : Heap) (k : Nat), KeyS prog w g s.heap.objs.size ps → (∀ b o, s.heap.get? b = some o → g.get? b = some o) → Q (.ref s.heap.objs.size) { s with heap := g, toks := k }) :
    wpAny (model prog w) A (call (.type "set") [.ref l]) Q E s := by
  have hx : ps.length = its.size := by
    rw [← Array.length_toList, hi, List.length_map]
  obtain ⟨c, tl, hmro⟩ := PySem.F.called_set.mro
  have made := PySem.F.called_set.made
  have sub := PySem.F.called_set.sub
  refine wpAny_call (codeAny_of_tree ?_)
  show wpAny _ _ (callAny (.type "set") _) _ _ _
  refine wpAny_pure ⟨Code.quiet_builtin _ (by decide +kernel), codeAny_builtin PySem.F.entry_type_call ?_⟩
  rw [Around.under_plain (weight_type_call_type "set" [.ref l] []) rfl]
  have n1 := PySem.F.called_set.notType
  have n2 := PySem.F.called_set.canCreate
  have n3 := PySem.F.typeCall_set_1 (.ref l)
  repeat (any_goals (first | assumption | wp_step))
  refine codeAny_mono (code_set_led1 (.ref l) (E := E) (Q₁ := fun z u => z = .ref s.heap.objs.size ∧ u = { s with heap := s.heap.push { cls := .type "set", dict := none, data := .set #[] 0 (.fresh 0 0 (!w.params.followText "set-order")) } }) ⟨rfl, rfl⟩) fun r u hr => ?_
  cases r with
  | error e => exact hr
  | ok fl =>
    cases fl with
    | ret z =>
      obtain ⟨rfl, rfl⟩ := hr
      have new := keyS_fresh (P := prog) w s.heap
      generalize ob : ({ cls := .type "set", dict := none, data := .set #[] 0 (.fresh 0 0 (!w.params.followText "set-order")) } : Obj) = sob at new
      have here : (s.heap.push sob).get? s.heap.objs.size = some sob := Heap.get?_push_size _ (by rw [← ob]; rfl)
      have ty : Shared.TypeIs { s with heap := s.heap.push sob } (.ref s.heap.objs.size) "set" := ⟨_, here, by rw [← ob]⟩
      have n4 := PySem.F.called_set.init.lookup
      have n5 := PySem.F.called_set.init.bind (.ref s.heap.objs.size)
      repeat (any_goals (first | assumption | wp_step))
      refine codeAny_mono (codeAny_call_builtin (R := wants (fun r u => r = .none ∧ ∃ g k, u = { s with heap := g, toks := k } ∧ KeyS prog w g s.heap.objs.size ps ∧ (∀ b o, s.heap.get? b = some o → g.get? b = some o)) E) PySem.F.called_set.init.plain PySem.F.entry_set_init (check_set_init_1 ty ?_)) fun r2 u2 hr2 => ?_
      · have hl1 : (s.heap.push sob).IsList l its := hl.push _
        obtain ⟨ol, hol, hcl, nl, hdl⟩ := id hl1
        have tl : Shared.TypeIs { s with heap := s.heap.push sob } (.ref l) "list" := ⟨ol, hol, hcl⟩
        have lt : l < s.heap.objs.size := by
          obtain ⟨o, ho, _⟩ := hl
          exact Heap.lt_size ho
        have k1 := PySem.F.sub_list_set
        have k2 := PySem.F.sub_list_frozenset
        have k3 : (Value.type "list" == Value.type "dict") = false := by decide
        unfold Builtin.«set.__init__» noKeywords Builtin.Frozenset.updateFrom
        obtain ⟨c1, c2, c3, c4⟩ := ol
        simp only at hcl hdl
        subst hcl hdl ob
        generalize hP : pyIter = walk
        wp_walk
        subst hP
        refine wpAny_pyIter_list hl1 (wpAny_bind (wpAny_runValue ?_))
        have ne : l ≠ (s.heap.push { cls := .type "set", dict := none, data := .set #[] 0 (.fresh 0 0 (!w.params.followText "set-order")) }).objs.size := by
          rw [Heap.size_push]
          exact Nat.ne_of_lt (Nat.lt_succ_of_lt lt)
        have apart : s.heap.objs.size ∉ [(s.heap.push { cls := .type "set", dict := none, data := .set #[] 0 (.fresh 0 0 (!w.params.followText "set-order")) }).objs.size, l] := by
          rw [Heap.size_push]
          simp only [List.mem_cons, List.not_mem_nil, or_false, not_or]
          exact ⟨Nat.ne_of_lt (Nat.lt_succ_self _), Nat.ne_of_gt lt⟩
        have vals : ∀ (i : Nat) (v : Value), its[i]? = some v → ∃ e, ps[i]? = some e ∧ v = .ref e.1 := fun i v hv => by
          rw [← Array.getElem?_toList, hi, List.getElem?_map] at hv
          cases e : ps[i]? with
          | none => rw [e] at hv; cases hv
          | some e0 =>
            rw [e] at hv
            exact ⟨e0, rfl, (Option.some.inj hv).symm⟩
        have calm : A.in1.in1.in1.handled = none := by simp [hh]
        refine upd_loopK ((Walks.list calm _ l ne its).toS) s.heap.objs.size apart ps hx (by omega) (by simp only [Around.in1_units]; omega) vals s.heap hk (fun b o e => ?_) its.size 0 _ (by omega) ⟨⟨_, Heap.get?_push_size _ rfl, rfl, rfl⟩, hl1.push _⟩ (fun b o e => Heap.get?_push_of_some _ (Heap.get?_push_of_some _ e)) ?_ fun u hm hT => ?_
        · have b1 := Heap.lt_size e
          refine ⟨Nat.ne_of_lt b1, ?_⟩
          rw [Heap.size_push]
          simp only [List.mem_cons, List.not_mem_nil, or_false]
          exact Nat.ne_of_lt (Nat.lt_succ_of_lt b1)
        · exact new.keep fun o e => Heap.get?_push_of_some _ e
        · obtain ⟨g, x1, x2, k, x3⟩ := u
          have q1 : x1 = s.gens := hm.gens
          have q2 : x2 = s.drawn := hm.drawn
          have q3 : x3 = s.os := hm.os
          subst q1 q2 q3
          show wpAny _ _ _ _ _ _
          refine wpAny_pure ?_
          show wpAny _ _ (ret Value.none) _ _ _
          refine wpAny_pure ⟨rfl, g, k, rfl, hT, fun b o e => ?_⟩
          have hb := Heap.lt_size e
          refine hm.heap b o ?_ (Heap.get?_push_of_some _ (Heap.get?_push_of_some _ e))
          rw [Heap.size_push]
          simp only [List.mem_cons, List.not_mem_nil, or_false, not_or]
          exact ⟨Nat.ne_of_lt hb, Nat.ne_of_lt (Nat.lt_succ_of_lt hb)⟩
      · cases r2 with
        | error e => exact hr2
        | ok f2 =>
          cases f2 with
          | ret r =>
            obtain ⟨rfl, g, k, rfl, h1, h2⟩ := hr2
            repeat (any_goals (first | assumption | wp_step))
            exact q g k h1 h2
          | _ => exact hr2.elim
    | _ => exact hr.elim
end
end Pyr

set_option Elab.async false
set_option autoImplicit false
set_option linter.all false
set_option maxRecDepth 100000
set_option maxHeartbeats 4000000
/-! a dict whose keys are of any depth and whose values are objects -/
namespace Pyr
open PySem PySem.Spec PyProof.Rows L2
/-- its entries as the library has them -/
def xsOf (ys : List (NestedKey × Addr × Addr)) : List (NestedKey × Addr × Value) := ys.map fun y => (y.1, y.2.1, Value.ref y.2.2)
structure DkS (P : Program) (w : World) (h : Heap) (a : Addr) (ys : List (NestedKey × Addr × Addr)) : Prop where
  ex : ∃ o es ep, h.get? a = some o ∧ o.ExactDict ∧ o.data = .dict es ep ∧ es.toList = (xsOf ys).map (entryOfKey (nestedKind P w)) ∧ ((xsOf ys).map (·.1)).Nodup
  sys : (a == sysModules) = false
section
variable {P : Program} {w : World} {h h' : Heap} {a : Addr} {ys : List (NestedKey × Addr × Addr)}
theorem DkS.keep (x : DkS P w h a ys) (k : ∀ o, h.get? a = some o → h'.get? a = some o) : DkS P w h' a ys := by
  obtain ⟨o, es, ep, ho, q⟩ := x.ex
  exact ⟨⟨o, es, ep, k o ho, q⟩, x.sys⟩
theorem DkS.full (x : DkS P w h a ys) (k : ∀ y ∈ ys, KAt h y.1 y.2.1) : h.DictOfH (nestedKind P w) a (xsOf ys) := by
  obtain ⟨o, es, ep, q1, q2, q3, q4, q5⟩ := x.ex
  refine ⟨o, es, ep, q1, q2, q3, q4, fun z hz => ?_, q5⟩
  obtain ⟨y, hy, rfl⟩ := List.mem_map.mp hz
  exact ⟨(k y hy).is, (k y hy).low⟩
theorem dk_bare (x : h.DictOfH (nestedKind P w) a (xsOf ys)) (s : (a == sysModules) = false) : DkS P w h a ys := by
  obtain ⟨o, es, ep, q1, q2, q3, q4, _, q5⟩ := x
  exact ⟨⟨o, es, ep, q1, q2, q3, q4, q5⟩, s⟩
def dkO (P : Program) (w : World) (a : Addr) (ys : List (NestedKey × Addr × Addr)) : HO := .ext fun h => DkS P w h a ys
theorem dkO_ok {H : Hp} (x : DkS P w h a ys) : ObjOk P w H h a (dkO P w a ys) := by
  obtain ⟨o, es, ep, ho, _⟩ := id x.ex
  exact ⟨x, ⟨o, ho⟩, fun h1 h2 z k => DkS.keep z k⟩
theorem at_some {k : NestedKey} {y : NestedKey × Addr × Addr} (nd : (ys.map (·.1)).Nodup) (hy : y ∈ ys) (e : y.1 = k) : atKey (xsOf ys) k = some (y.2.1, Value.ref y.2.2) := by
  obtain ⟨i, hi, ey⟩ := List.getElem_of_mem hy
  refine atKey_of_get (i := i) ?_ ?_
  · unfold xsOf
    rw [List.map_map]
    exact nd
  · unfold xsOf
    rw [List.getElem?_map, List.getElem?_eq_getElem hi, ey, ← e]
    rfl
theorem at_none {k : NestedKey} (hn : ∀ y ∈ ys, y.1 ≠ k) : atKey (xsOf ys) k = none := by
  refine atKey_none_of_get fun j p e => ?_
  unfold xsOf at e
  rw [List.getElem?_map] at e
  cases q : ys[j]? with
  | none => rw [q] at e; cases e
  | some y =>
    rw [q] at e
    have e : (y.1, y.2.1, Value.ref y.2.2) = (k, p) := Option.some.inj e
    exact hn y (List.mem_of_getElem? q) (congrArg Prod.fst e)
theorem DkS.nd (x : DkS P w h a ys) : (ys.map (·.1)).Nodup := by
  obtain ⟨o, es, ep, _, _, _, _, q⟩ := x.ex
  unfold xsOf at q
  rw [List.map_map] at q
  exact q
variable {A : Around} {E : Value → Shared → Prop} {s : Shared}
theorem dk_default {x b : Addr} {k : NestedKey} {Q : Value → Shared → Prop} (S : DkS P w s.heap a ys) (kk : ∀ y ∈ ys, KAt s.heap y.1 y.2.1) (hx : KAt s.heap k x) (hu : A.units + 40 < cLine) (len : ys.length ≤ 1000)
    (old : ∀ y ∈ ys, y.1 = k → ∀ tk, Q (.ref y.2.2) { s with toks := tk }) (new : (∀ y ∈ ys, y.1 ≠ k) → ∀ g tk, DkS P w g a (ys ++ [(k, x, b)]) → Heap.SameBut a s.heap g → Q (.ref b) { s with heap := g, toks := tk }) :
    wpAny (model P w) A (call (.builtin "dict.setdefault") [.ref a, .ref x, .ref b]) Q E s := by
  refine call_setdefault_heap (knd := nestedKind P w) (k := k) (xs := xsOf ys) (show A.in1.units + 8 < cLine by simp only [Around.in1_units]; omega) ⟨hx.is, hx.low⟩ S.sys (S.full kk) (fun p hp => ?_) (fun hn g D sb => ?_) ?_
  · by_cases hm : ∃ y ∈ ys, y.1 = k
    · obtain ⟨y, hy, e⟩ := hm
      rw [at_some S.nd hy e] at hp
      cases hp
      exact old y hy e _
    · rw [at_none fun y hy e => hm ⟨y, hy, e⟩] at hp
      cases hp
  · have none : ∀ y ∈ ys, y.1 ≠ k := fun y hy e => by rw [at_some S.nd hy e] at hn; cases hn
    refine new none g _ (dk_bare ?_ S.sys) sb
    rw [storedH_new hn] at D
    have e : xsOf ys ++ [(k, x, Value.ref b)] = xsOf (ys ++ [(k, x, b)]) := by unfold xsOf; rw [List.map_append]; rfl
    rw [← e]
    exact D
  · unfold xsOf
    rw [List.length_map, sizeLine_eq]
    omega
theorem dk_get {x : Addr} {k : NestedKey} {y : NestedKey × Addr × Addr} {Q : Value → Shared → Prop} (S : DkS P w s.heap a ys) (kk : ∀ y ∈ ys, KAt s.heap y.1 y.2.1) (hx : KAt s.heap k x) (hu : A.units + 40 < cLine) (hy : y ∈ ys) (e : y.1 = k) (q : ∀ tk, Q (.ref y.2.2) { s with toks := tk }) :
    wpAny (model P w) A (getItem (.ref a) (.ref x)) Q E s :=
  wpAny_getItem_heap (knd := nestedKind P w) (k := k) (show A.in1.units + 8 < cLine by simp only [Around.in1_units]; omega) ⟨hx.is, hx.low⟩ (S.full kk) (at_some S.nd hy e) (q _)
end
end Pyr

set_option Elab.async false
set_option linter.all false
set_option maxRecDepth 100000
set_option maxHeartbeats 1000000
/-! A value semantics over the hand layer: expressions and statements as functions of data, with their soundness. -/
namespace Pyr
open PySem PySem.Spec PyProof.Rows L2 Evl

def keyD : Key → D
  | .inl i => .int i
  | .inr x => .str x

mutual
inductive Rp (K : PySem.W.Frag) (G : Hp) : V → D → Prop
  | non : Rp K G .non .none
  | bl (b : Bool) : Rp K G (.bl b) (.bool b)
  | int (i : Int) : Rp K G (.int i) (.int i)
  | str (x : Str) : Rp K G (.str x) (.str x)
  | lst {a : Addr} {xs : List V} {ds : List D} : SqL K G a xs → Rps K G xs ds → Rp K G (.ref a) (.list ds)
  | tup {a : Addr} {xs : List V} {ds : List D} : SqT K G a xs → Rps K G xs ds → Rp K G (.ref a) (.tuple ds)
  | dic {a : Addr} {kvs : List (Key × V)} {es : List (D × D)} : G a = some (.dK kvs) → RpKv K G kvs es → Rp K G (.ref a) (.dict es)
inductive Rps (K : PySem.W.Frag) (G : Hp) : List V → List D → Prop
  | nil : Rps K G [] []
  | cons {v : V} {vs : List V} {d : D} {ds : List D} : Rp K G v d → Rps K G vs ds → Rps K G (v :: vs) (d :: ds)
inductive RpKv (K : PySem.W.Frag) (G : Hp) : List (Key × V) → List (D × D) → Prop
  | nil : RpKv K G [] []
  | cons {k : Key} {v : V} {kvs : List (Key × V)} {d : D} {es : List (D × D)} : Rp K G v d → RpKv K G kvs es → RpKv K G ((k, v) :: kvs) ((keyD k, d) :: es)
end

section
variable {K : PySem.W.Frag} {G G' : Hp}
mutual
theorem Rp.mono (e : Ex G G') : ∀ {v : V} {d : D}, Rp K G v d → Rp K G' v d
  | _, _, .non => .non
  | _, _, .bl b => .bl b
  | _, _, .int i => .int i
  | _, _, .str x => .str x
  | _, _, .lst h r => .lst (ex_l e h) (Rps.mono e r)
  | _, _, .tup h r => .tup (ex_t e h) (Rps.mono e r)
  | _, _, .dic h r => .dic (e _ _ h) (RpKv.mono e r)
theorem Rps.mono (e : Ex G G') : ∀ {vs : List V} {ds : List D}, Rps K G vs ds → Rps K G' vs ds
  | _, _, .nil => .nil
  | _, _, .cons h r => .cons (Rp.mono e h) (Rps.mono e r)
theorem RpKv.mono (e : Ex G G') : ∀ {vs : List (Key × V)} {ds : List (D × D)}, RpKv K G vs ds → RpKv K G' vs ds
  | _, _, .nil => .nil
  | _, _, .cons h r => .cons (Rp.mono e h) (RpKv.mono e r)
end
theorem Rps.len : ∀ {vs : List V} {ds : List D}, Rps K G vs ds → vs.length = ds.length
  | _, _, .nil => rfl
  | _, _, .cons _ r => by rw [List.length_cons, List.length_cons, Rps.len r]
theorem Rps.app : ∀ {vs us : List V} {ds es : List D}, Rps K G vs ds → Rps K G us es → Rps K G (vs ++ us) (ds ++ es)
  | _, _, _, _, .nil, s => s
  | _, _, _, _, .cons h r, s => .cons h (Rps.app r s)
theorem Rps.at : ∀ {vs : List V} {ds : List D} {i : Nat} {d : D}, Rps K G vs ds → ds[i]? = some d → ∃ v, vs[i]? = some v ∧ Rp K G v d
  | _, _, _, _, .nil, h => by simp at h
  | _, _, 0, _, .cons h _, e => by
    simp at e
    subst e
    exact ⟨_, rfl, h⟩
  | _, _, i + 1, _, .cons _ r, e => by
    obtain ⟨v, h1, h2⟩ := Rps.at (i := i) r (by simpa using e)
    exact ⟨v, by simpa using h1, h2⟩
theorem Rps.cut : ∀ {vs : List V} {ds : List D} (n : Nat), Rps K G vs ds → Rps K G (vs.take n) (ds.take n)
  | _, _, 0, _ => .nil
  | _, _, _ + 1, .nil => .nil
  | _, _, n + 1, .cons h r => .cons h (Rps.cut n r)
theorem Rps.off : ∀ {vs : List V} {ds : List D} (n : Nat), Rps K G vs ds → Rps K G (vs.drop n) (ds.drop n)
  | _, _, 0, r => r
  | _, _, _ + 1, .nil => .nil
  | _, _, n + 1, .cons _ r => Rps.off n r
theorem Rps.put {v : V} {d : D} (h : Rp K G v d) : ∀ {vs : List V} {ds : List D} (i : Nat), Rps K G vs ds → Rps K G (vs.set i v) (ds.set i d)
  | _, _, _, .nil => .nil
  | _, _, 0, .cons _ r => .cons h r
  | _, _, i + 1, .cons q r => .cons q (Rps.put h i r)
end

/-! ### data without dicts, for the library's own words on data -/
mutual
def flatD : D → Bool
  | .list ds => flatsD ds
  | .tuple ds => flatsD ds
  | .dict _ => false
  | _ => true
def flatsD : List D → Bool
  | [] => true
  | d :: ds => flatD d && flatsD ds
end
section
variable {K : PySem.W.Frag} {G : Hp}
mutual
theorem Rp.dp : ∀ {v : V} {d : D}, Rp K G v d → flatD d = true → Dp K G v d
  | _, _, .non, _ => .non
  | _, _, .bl b, _ => .bl b
  | _, _, .int i, _ => .int i
  | _, _, .str x, _ => .str x
  | _, _, .lst h r, f => .lst h (Rps.dp r (by simpa [flatD] using f))
  | _, _, .tup h r, f => .tup h (Rps.dp r (by simpa [flatD] using f))
  | _, _, .dic _ _, f => by simp [flatD] at f
theorem Rps.dp : ∀ {vs : List V} {ds : List D}, Rps K G vs ds → flatsD ds = true → DpAll K G vs ds
  | _, _, .nil, _ => .nil
  | _, _, .cons h r, f => by
    rw [flatsD, Bool.and_eq_true] at f
    exact .cons (Rp.dp h f.1) (Rps.dp r f.2)
end
end

/-! ### results -/
inductive Res (α : Type) where
  | ok (a : α)
  | exc (c : Str) (fs : List (Str × D))
  | bad
def Res.bind {α β : Type} : Res α → (α → Res β) → Res β
  | .ok a, k => k a
  | .exc c fs, _ => .exc c fs
  | .bad, _ => .bad
def Res.map {α β : Type} (f : α → β) : Res α → Res β
  | .ok a => .ok (f a)
  | .exc c fs => .exc c fs
  | .bad => .bad

abbrev En := List (Option D)
/-- the tables of code objects, the program and its world -/
structure TabList where
  l : List Addr
  P : Program
  w : World
instance : Membership Addr TabList := ⟨fun T a => a ∈ T.l⟩
/-- the set of the texts xs at a, of some size that is not above their number -/
def SetT (P : Program) (w : World) (h : Heap) (a : Addr) (xs : List Str) : Prop := ∃ n, n ≤ xs.length ∧ h.SetOf (PySem.strKind P w) a (fun k => decide (k ∈ xs)) n
theorem setT_at {P : Program} {w : World} {h h' : Heap} {a : Addr} {xs : List Str} (z : SetT P w h a xs) (k : ∀ o, h.get? a = some o → h'.get? a = some o) : SetT P w h' a xs := by
  obtain ⟨n, hn, o, es, ep, t, ho, r⟩ := z
  exact ⟨n, hn, o, es, ep, t, k o ho, r⟩
/-- the set of the data ds at a -/
inductive SetD (P : Program) (w : World) (h : Heap) (a : Addr) : List D → Prop
  | txt (xs : List Str) : SetT P w h a xs → SetD P w h a (xs.map .str)
theorem SetD.at {P : Program} {w : World} {h h' : Heap} {a : Addr} {ds : List D} (z : SetD P w h a ds) (k : ∀ o, h.get? a = some o → h'.get? a = some o) : SetD P w h' a ds := by
  cases z with
  | txt xs t => exact .txt xs (setT_at t k)
def setO (P : Program) (w : World) (a : Addr) (ds : List D) : HO := .ext fun h => SetD P w h a ds

/-- the tables of code objects stand -/
def TbOk (TS : TabList) (H : Hp) : Prop := ∀ P ∈ TS, ∃ ps : Array Value, H P = some (.tbl ps) ∧ TriplesOk ps.toList
structure ExT (H H' : Hp) : Prop where
  same : ∀ a o, H a = some o → (∀ ps, o ≠ .tbl ps) → H' a = some o
  old : ∀ a, H' a = none → H a = none
theorem ExT.refl (H : Hp) : ExT H H := ⟨fun _ _ h _ => h, fun _ h => h⟩
theorem ExT.trans {H H1 H2 : Hp} (a : ExT H H1) (b : ExT H1 H2) : ExT H H2 := ⟨fun x o h n => b.same x o (a.same x o h n) n, fun x h => a.old x (b.old x h)⟩
theorem ExT.of {H H' : Hp} (e : Ex H H') : ExT H H' := ⟨fun a o h _ => e a o h, fun a h => fresh_back e h⟩
def isTb : HO → Bool
  | .tbl _ => true
  | _ => false
structure Ok0 (TS : TabList) (G H : Hp) : Prop where
  le : Ex G H
  tb : TbOk TS H
  nt : ∀ a o, G a = some o → isTb o = false
structure Gr (TS : TabList) (G H G' H' : Hp) : Prop where
  g : Ex G G'
  h : ExT H H'
  nw : ∀ a, G' a ≠ none → G a ≠ none ∨ H a = none
  ok : Ok0 TS G' H'
section
variable {TS : TabList} {G H G1 H1 G2 H2 : Hp} {p : Addr} {o : HO}
theorem Gr.refl (k : Ok0 TS G H) : Gr TS G H G H := ⟨Ex.refl G, ExT.refl H, fun _ h => .inl h, k⟩
theorem Gr.trans (a : Gr TS G H G1 H1) (b : Gr TS G1 H1 G2 H2) : Gr TS G H G2 H2 :=
  ⟨a.g.trans b.g, a.h.trans b.h, fun x h => (b.nw x h).elim (fun z => a.nw x z) fun z => .inr (a.h.old x z), b.ok⟩
theorem upd_none {b : Addr} (h : upd H p o b = none) : H b = none := by
  by_cases e : b = p
  · subst e
    rw [upd_same] at h
    cases h
  · rwa [upd_ne e] at h
theorem TbOk.new (k : TbOk TS H) (hp : H p = none) : TbOk TS (upd H p o) := fun P hP => by
  obtain ⟨ps, h1, h2⟩ := k P hP
  exact ⟨ps, by rw [upd_ne (ne_of_none h1 hp)]; exact h1, h2⟩
/-- a new object, not counted among the data -/
theorem Gr.own (k : Ok0 TS G H) (hp : H p = none) : Gr TS G H G (upd H p o) :=
  ⟨Ex.refl G, .of (Ex.new hp), fun _ h => .inl h, ⟨k.le.trans (Ex.new hp), k.tb.new hp, k.nt⟩⟩
/-- a new object, counted -/
theorem nt_upd (k : ∀ a o, G a = some o → isTb o = false) (ho : isTb o = false) : ∀ a u, upd G p o a = some u → isTb u = false := fun a u e => by
  by_cases q : a = p
  · subst q
    rw [upd_same] at e
    cases e
    exact ho
  · rw [upd_ne q] at e
    exact k a u e
theorem Gr.new (k : Ok0 TS G H) (hp : H p = none) (ho : isTb o = false := by rfl) : Gr TS G H (upd G p o) (upd H p o) := by
  have hg : G p = none := fresh_back k.le hp
  refine ⟨Ex.new hg, .of (Ex.new hp), fun a h => ?_, ⟨fun a u e => ?_, k.tb.new hp, nt_upd k.nt ho⟩⟩
  · by_cases e : a = p
    · subst e
      exact .inr hp
    · rw [upd_ne e] at h
      exact .inl h
  · by_cases q : a = p
    · subst q
      rw [upd_same] at e ⊢
      exact e
    · rw [upd_ne q] at e ⊢
      exact k.le _ _ e
/-- an own object counted from now on -/
theorem Gr.count (k : Ok0 TS G H) (g0 : G p = none) (hp : H p = some o) (ho : isTb o = false := by rfl) : Ex G (upd G p o) ∧ Ok0 TS (upd G p o) H :=
  ⟨Ex.new g0, fun a u e => by
    by_cases q : a = p
    · subst q
      rw [upd_same] at e
      cases e
      exact hp
    · rw [upd_ne q] at e
      exact k.le _ _ e, k.tb, nt_upd k.nt ho⟩
end

/-! ### what is wanted behind -/
def ExcRep (K : PySem.W.Frag) (G H : Hp) (d : Option Addr) : List (Str × D) → Prop
  | [] => d = none
  | fs => ∃ a vfs, d = some a ∧ H a = some (.xd vfs) ∧ vfs.map (·.1) = fs.map (·.1) ∧ Rps K G (vfs.map (·.2)) (fs.map (·.2))
def PostX (TS : TabList) (X : Cx) (W : WX) (σ : L2.St) (G H : Hp) (c : Str) (fs : List (Str × D)) : Prop :=
  ∀ (C : Addr) (d : Option Addr) (G' H' : Hp), X.mg c = some (.ref C) → Gr TS G H G' H' → ExcRep X.K G' H' d fs → W (.ref C) d σ H'
def PostG {β γ : Type} (Rel : Hp → Hp → Hp → γ → β → Prop) (TS : TabList) (X : Cx) (W : WX) (σ : L2.St) (G H : Hp) (r : Res β) (Q : γ → Hp → Prop) : Prop :=
  match r with
  | .ok b => ∀ v G' H', Gr TS G H G' H' → Rel H G' H' v b → Q v H'
  | .exc c fs => PostX TS X W σ G H c fs
  | .bad => False
/-- freshness may be told of an earlier heap -/
def Back {β γ : Type} (Rel : Hp → Hp → Hp → γ → β → Prop) : Prop := ∀ H H1 G' H' v b, (∀ a, H1 a = none → H a = none) → Rel H1 G' H' v b → Rel H G' H' v b
abbrev RelE (K : PySem.W.Frag) : Hp → Hp → Hp → V → D → Prop := fun _ G' _ v d => Rp K G' v d
abbrev RelA (K : PySem.W.Frag) : Hp → Hp → Hp → List V → List D → Prop := fun _ G' _ v d => Rps K G' v d
abbrev RelT : Hp → Hp → Hp → Bool → Bool → Prop := fun _ _ _ v b => v = b
abbrev RelL (K : PySem.W.Frag) : Hp → Hp → Hp → V → List D → Prop := fun H0 G' H' v ds => ∃ p vs, v = .ref p ∧ H0 p = none ∧ G' p = none ∧ H' p = some (.lst vs) ∧ Rps K G' vs ds
theorem back_E {K : PySem.W.Frag} : Back (RelE K) := fun _ _ _ _ _ _ _ h => h
theorem back_A {K : PySem.W.Frag} : Back (RelA K) := fun _ _ _ _ _ _ _ h => h
theorem back_T : Back RelT := fun _ _ _ _ _ _ _ h => h
theorem back_L {K : PySem.W.Frag} : Back (RelL K) := fun _ _ _ _ _ _ n ⟨p, vs, e, h, r⟩ => ⟨p, vs, e, n p h, r⟩

section
variable {TS : TabList} {X : Cx} {W : WX} {σ : L2.St} {G H G1 H1 : Hp} {α β γ δ : Type}
theorem PostX.shift {c : Str} {fs : List (Str × D)} (g : Gr TS G H G1 H1) (p : PostX TS X W σ G H c fs) : PostX TS X W σ G1 H1 c fs := fun C d G' H' m h r => p C d G' H' m (g.trans h) r
theorem PostG.shift {Rel : Hp → Hp → Hp → γ → β → Prop} (bk : Back Rel) {r : Res β} {Q : γ → Hp → Prop} (g : Gr TS G H G1 H1) (p : PostG Rel TS X W σ G H r Q) : PostG Rel TS X W σ G1 H1 r Q := by
  cases r with
  | ok b => exact fun v G' H' h r => p v G' H' (g.trans h) (bk _ _ _ _ _ _ g.h.old r)
  | exc c fs => exact PostX.shift g p
  | bad => exact p
theorem bindP {Ra : Hp → Hp → Hp → δ → α → Prop} {Rb : Hp → Hp → Hp → γ → β → Prop} (bk : Back Rb) {r : Res α} {k : α → Res β} {Q : γ → Hp → Prop} {R : δ → Hp → Prop} {wp : (δ → Hp → Prop) → Prop}
    (hr : ∀ Q', PostG Ra TS X W σ G H r Q' → wp Q') (post : PostG Rb TS X W σ G H (r.bind k) Q)
    (next : ∀ v x G1 H1, r = .ok x → Gr TS G H G1 H1 → Ra H G1 H1 v x → PostG Rb TS X W σ G1 H1 (k x) Q → R v H1) : wp R := by
  refine hr R ?_
  cases r with
  | ok x => exact fun v G1 H1 g rel => next v x G1 H1 rfl g rel (PostG.shift bk g post)
  | exc c fs => exact post
  | bad => exact post
end

/-! ### judgements -/
/-- an own list, read by its items: not data -/
abbrev loD (ds : List D) : D := .dict [(.none, .list ds)]
/-- a set in an own slot, by its members: not data -/
abbrev stD (ds : List D) : D := .dict [(.bool true, .list ds)]
def isLo : D → Bool
  | .dict [(.none, .list _)] => true
  | .dict [(.bool true, .list _)] => true
  | _ => false
theorem Rp.notLo {K : PySem.W.Frag} {G : Hp} {v : V} {d : D} (r : Rp K G v d) : isLo d = false := by
  cases r with
  | dic h e =>
    cases e with
    | nil => rfl
    | cons r e =>
      rename_i k _ _ _ _
      cases k <;> rfl
  | _ => rfl
/-- the entries of a dict as data: keys of any depth, values that are objects -/
inductive DkR (K : PySem.W.Frag) (G : Hp) : List (NestedKey × Addr × Addr) → List D → Prop
  | nil : DkR K G [] []
  | cons {k : NestedKey} {ka b : Addr} {kd vd : D} {ys : List (NestedKey × Addr × Addr)} {es : List D} : Rp K G (.ref ka) kd → nk kd = k → keyB kd = true → kd.depth ≤ 8 → Rp K G (.ref b) vd → DkR K G ys es → DkR K G ((k, ka, b) :: ys) (.tuple [kd, vd] :: es)
theorem DkR.mono {K : PySem.W.Frag} {G G' : Hp} (e : Ex G G') : ∀ {ys : List (NestedKey × Addr × Addr)} {es : List D}, DkR K G ys es → DkR K G' ys es
  | _, _, .nil => .nil
  | _, _, .cons r1 h1 h2 h3 r2 rs => .cons (r1.mono e) h1 h2 h3 (r2.mono e) (rs.mono e)
/-- the set of the data ds at a: of texts, or of keys of any depth; or a dict, its entries behind a None -/
structure StAt (TS : TabList) (K : PySem.W.Frag) (G H : Hp) (a : Addr) (ds : List D) : Prop where
  ex : ((ds ≠ [] ∧ ds.head? ≠ some .none) ∧ H a = some (setO TS.P TS.w a ds)) ∨ (∃ ps : List (Addr × NestedKey), H a = some (keyO TS.P TS.w a ps) ∧ Rps K G (ps.map fun e => V.ref e.1) ds ∧ nks ds = ps.map (·.2) ∧ keysB ds = true ∧ ∀ d ∈ ds, d.depth ≤ 8) ∨
    ∃ ys es, ds = .none :: es ∧ H a = some (dkO TS.P TS.w a ys) ∧ DkR K G ys es
theorem StAt.mono {TS : TabList} {K : PySem.W.Frag} {G G' H H' : Hp} {a : Addr} {ds : List D} (x : StAt TS K G H a ds) (e : Ex G G') (h : ∀ u, H a = some u → isTb u = false → H' a = some u) : StAt TS K G' H' a ds := by
  rcases x.ex with ⟨n, z⟩ | ⟨ps, z, r, q⟩ | ⟨ys, es, q, z, r⟩
  · exact ⟨.inl ⟨n, h _ z rfl⟩⟩
  · exact ⟨.inr (.inl ⟨ps, h _ z rfl, r.mono e, q⟩)⟩
  · exact ⟨.inr (.inr ⟨ys, es, q, h _ z rfl, r.mono e⟩)⟩
theorem StAt.there {TS : TabList} {K : PySem.W.Frag} {G H : Hp} {a : Addr} {ds : List D} (x : StAt TS K G H a ds) : ∃ u, H a = some u ∧ isTb u = false := by
  rcases x.ex with ⟨_, z⟩ | ⟨ps, z, _⟩ | ⟨ys, es, _, z, _⟩
  · exact ⟨_, z, rfl⟩
  · exact ⟨_, z, rfl⟩
  · exact ⟨_, z, rfl⟩
structure RpE (TS : TabList) (K : PySem.W.Frag) (G H : Hp) (ρ : En) (σ : L2.St) : Prop where
  len : ρ.length ≤ σ.length
  at' : ∀ (i : Nat) (d : D), ρ[i]? = some (some d) → isLo d = false → ∃ v, σ[i]? = some (some v) ∧ Rp K G v d
  lo : ∀ (i : Nat) (ds : List D), ρ[i]? = some (some (loD ds)) → ∃ a vs, σ[i]? = some (some (.ref a)) ∧ H a = some (.lst vs) ∧ Rps K G vs ds
  st : ∀ (i : Nat) (ds : List D), ρ[i]? = some (some (stD ds)) → ∃ a, σ[i]? = some (some (.ref a)) ∧ StAt TS K G H a ds
theorem RpE.mono {TS : TabList} {K : PySem.W.Frag} {G G' H H' : Hp} {ρ : En} {σ : L2.St} (g : Gr TS G H G' H') (h : RpE TS K G H ρ σ) : RpE TS K G' H' ρ σ :=
  ⟨h.len, fun i d q z => let ⟨v, a, b⟩ := h.at' i d q z; ⟨v, a, b.mono g.g⟩, fun i ds q => let ⟨a, vs, h1, h2, h3⟩ := h.lo i ds q; ⟨a, vs, h1, g.h.same a _ h2 (fun ps e => by cases e), h3.mono g.g⟩, fun i ds q => let ⟨a, h1, h2⟩ := h.st i ds q; ⟨a, h1, h2.mono g.g fun u hu n => g.h.same a u hu fun ps z => by rw [z] at n; cases n⟩⟩

def wpE (X : Cx) (e : Expr) : TE := fun σ H Q => ∀ (pins : List (Addr × Obj)) (s : Shared), Inv X pins σ H s → wpAny (model X.prog X.w) X.A (eval e X.env) (EP X pins σ Q) X.xe s
theorem pe_wp (X : Cx) (e : Expr) : PE X e (wpE X e) := ⟨fun pins s _ _ _ I h => h pins s I⟩
theorem wpE_of {X : Cx} {e : Expr} {t : TE} {σ : L2.St} {H : Hp} {Q : VK} (h : PE X e t) (q : t σ H Q) : wpE X e σ H Q := fun pins s I => h.run pins s σ H Q I q
def wpT (X : Cx) (e : Expr) : TT := fun σ H Q => ∀ (pins : List (Addr × Obj)) (s : Shared), Inv X pins σ H s → wpAny (model X.prog X.w) X.A (isTrue e X.env (eval e X.env)) (TP X pins σ Q) X.xe s
theorem pt_wp (X : Cx) (e : Expr) : PT X e (wpT X e) := ⟨fun pins s _ _ _ I h => h pins s I⟩
theorem wpT_of {X : Cx} {e : Expr} {t : TT} {σ : L2.St} {H : Hp} {Q : Bool → Hp → Prop} (h : PT X e t) (q : t σ H Q) : wpT X e σ H Q := fun pins s I => h.run pins s σ H Q I q
def wpA (X : Cx) (es : List Expr) : TA := fun σ H Q => ∀ (pos : Pos) (pins : List (Addr × Obj)) (s : Shared), Inv X pins σ H s → wpAny (model X.prog X.w) X.A (spliced (backTo pos (starEach es X.env))) (AP X pins σ Q) X.xe s
theorem pa_wp (X : Cx) (es : List Expr) : PA X es (wpA X es) := ⟨fun pos pins s _ _ _ I h => h pos pins s I⟩
theorem wpA_of {X : Cx} {es : List Expr} {t : TA} {σ : L2.St} {H : Hp} {Q : List V → Hp → Prop} (h : PA X es t) (q : t σ H Q) : wpA X es σ H Q := fun pos pins s I => h.run pos pins s σ H Q I q

structure DE (TS : TabList) (X : Cx) (e : Expr) (f : En → Res D) : Prop where
  run : ∀ (W : WX) (ρ : En) (σ : L2.St) (G H : Hp) (Q : VK), Takes X W → RpE TS X.K G H ρ σ → Ok0 TS G H → PostG (RelE X.K) TS X W σ G H (f ρ) Q → wpE X e σ H Q
instance {TS : TabList} {X : Cx} {e : Expr} {f : En → Res D} : CoeFun (DE TS X e f) fun _ => ∀ (W : WX) (ρ : En) (σ : L2.St) (G H : Hp) (Q : VK), Takes X W → RpE TS X.K G H ρ σ → Ok0 TS G H → PostG (RelE X.K) TS X W σ G H (f ρ) Q → wpE X e σ H Q := ⟨DE.run⟩
structure DL (TS : TabList) (X : Cx) (e : Expr) (f : En → Res (List D)) : Prop where
  run : ∀ (W : WX) (ρ : En) (σ : L2.St) (G H : Hp) (Q : VK), Takes X W → RpE TS X.K G H ρ σ → Ok0 TS G H → PostG (RelL X.K) TS X W σ G H (f ρ) Q → wpE X e σ H Q
instance {TS : TabList} {X : Cx} {e : Expr} {f : En → Res (List D)} : CoeFun (DL TS X e f) fun _ => ∀ (W : WX) (ρ : En) (σ : L2.St) (G H : Hp) (Q : VK), Takes X W → RpE TS X.K G H ρ σ → Ok0 TS G H → PostG (RelL X.K) TS X W σ G H (f ρ) Q → wpE X e σ H Q := ⟨DL.run⟩
structure DT (TS : TabList) (X : Cx) (e : Expr) (f : En → Res Bool) : Prop where
  run : ∀ (W : WX) (ρ : En) (σ : L2.St) (G H : Hp) (Q : Bool → Hp → Prop), Takes X W → RpE TS X.K G H ρ σ → Ok0 TS G H → PostG RelT TS X W σ G H (f ρ) Q → wpT X e σ H Q
instance {TS : TabList} {X : Cx} {e : Expr} {f : En → Res Bool} : CoeFun (DT TS X e f) fun _ => ∀ (W : WX) (ρ : En) (σ : L2.St) (G H : Hp) (Q : Bool → Hp → Prop), Takes X W → RpE TS X.K G H ρ σ → Ok0 TS G H → PostG RelT TS X W σ G H (f ρ) Q → wpT X e σ H Q := ⟨DT.run⟩
structure DA (TS : TabList) (X : Cx) (es : List Expr) (f : En → Res (List D)) : Prop where
  run : ∀ (W : WX) (ρ : En) (σ : L2.St) (G H : Hp) (Q : List V → Hp → Prop), Takes X W → RpE TS X.K G H ρ σ → Ok0 TS G H → PostG (RelA X.K) TS X W σ G H (f ρ) Q → wpA X es σ H Q
instance {TS : TabList} {X : Cx} {es : List Expr} {f : En → Res (List D)} : CoeFun (DA TS X es f) fun _ => ∀ (W : WX) (ρ : En) (σ : L2.St) (G H : Hp) (Q : List V → Hp → Prop), Takes X W → RpE TS X.K G H ρ σ → Ok0 TS G H → PostG (RelA X.K) TS X W σ G H (f ρ) Q → wpA X es σ H Q := ⟨DA.run⟩

/-- a new list as data -/
theorem DL.de {TS : TabList} {X : Cx} {e : Expr} {f : En → Res (List D)} (h : DL TS X e f) : DE TS X e (fun ρ => (f ρ).map .list) := by
  refine ⟨?_⟩
  intro W ρ σ G H Q tk re ok post
  refine h W ρ σ G H Q tk re ok ?_
  have post : PostG (RelE X.K) TS X W σ G H ((f ρ).map .list) Q := post
  cases hf : f ρ with
  | ok ds =>
    rw [hf] at post
    rintro v G' H' g ⟨p, vs, rfl, h0, g0, hp, r⟩
    obtain ⟨e1, e2⟩ := Gr.count g.ok g0 hp
    refine post _ _ H' ⟨g.g.trans e1, g.h, fun a q => ?_, e2⟩ (.lst (.inl (.inl upd_same)) (r.mono e1))
    by_cases z : a = p
    · subst z
      exact .inr h0
    · rw [upd_ne z] at q
      exact g.nw a q
  | exc c fs =>
    rw [hf] at post
    exact post
  | bad =>
    rw [hf] at post
    exact post
end Pyr

set_option Elab.async false
set_option linter.all false
set_option maxRecDepth 100000
set_option maxHeartbeats 1000000
namespace Pyr
open PySem PySem.Spec PyProof.Rows L2 Evl

structure CtE (X : Cx) : Prop where
  calm : X.calm = true
  nd : X.N.Nodup
  un : X.A.units + 65 < cLine

/-! ### data of small depth -/
mutual
def okD : Nat → D → Bool
  | _, .none => true
  | _, .bool _ => true
  | _, .int _ => true
  | _, .str x => PyData.strOk x
  | 0, .list _ => false
  | n + 1, .list ds => okDs n ds
  | 0, .tuple _ => false
  | n + 1, .tuple ds => okDs n ds
  | _, .dict _ => false
def okDs : Nat → List D → Bool
  | _, [] => true
  | n, d :: ds => okD n d && okDs n ds
end
mutual
theorem okD_flat : ∀ (d : D) (n : Nat), okD n d = true → flatD d = true ∧ d.canLay0 = true ∧ d.depth ≤ n
  | .none, n, _ => ⟨by simp [flatD], by simp [PyData.canLay0], by simp [PyData.depth]⟩
  | .bool _, n, _ => ⟨by simp [flatD], by simp [PyData.canLay0], by simp [PyData.depth]⟩
  | .int _, n, _ => ⟨by simp [flatD], by simp [PyData.canLay0], by simp [PyData.depth]⟩
  | .str _, n, h => ⟨by simp [flatD], by simpa [PyData.canLay0, okD] using h, by simp [PyData.depth]⟩
  | .list ds, 0, h => by simp [okD] at h
  | .list ds, n + 1, h => by
    obtain ⟨a, b, c⟩ := okDs_flat ds n (by simpa [okD] using h)
    refine ⟨by simpa [flatD] using a, by simpa [PyData.canLay0] using b, ?_⟩
    simp only [PyData.depth]
    omega
  | .tuple ds, 0, h => by simp [okD] at h
  | .tuple ds, n + 1, h => by
    obtain ⟨a, b, c⟩ := okDs_flat ds n (by simpa [okD] using h)
    refine ⟨by simpa [flatD] using a, by simpa [PyData.canLay0] using b, ?_⟩
    simp only [PyData.depth]
    omega
  | .dict _, n, h => by simp [okD] at h
theorem okDs_flat : ∀ (ds : List D) (n : Nat), okDs n ds = true → flatsD ds = true ∧ PyData.canLayAll0 ds = true ∧ PyData.depthAll ds ≤ n
  | [], n, _ => ⟨by simp [flatsD], by simp [PyData.canLayAll0], by simp [PyData.depthAll]⟩
  | d :: ds, n, h => by
    rw [okDs, Bool.and_eq_true] at h
    obtain ⟨a, b, c⟩ := okD_flat d n h.1
    obtain ⟨a', b', c'⟩ := okDs_flat ds n h.2
    refine ⟨by rw [flatsD, a, a']; rfl, by rw [PyData.canLayAll0, b, b']; rfl, ?_⟩
    simp only [PyData.depthAll]
    omega
end
abbrev okd (d : D) : Bool := okD 60 d
theorem okd_shaped {d : D} (h : okd d = true) : SeqAt.shaped d = true := by
  obtain ⟨_, b, c⟩ := okD_flat d 60 h
  show (d.canLay0 && decide (d.depth ≤ 64)) = true
  rw [b, decide_eq_true (by omega)]
  rfl
theorem Rp.okdp {K : PySem.W.Frag} {G : Hp} {v : V} {d : D} (r : Rp K G v d) (h : okd d = true) : Dp K G v d := r.dp (okD_flat d 60 h).1

/-! ### weakest words for the rules by values -/
section
variable {X : Cx}
def wpO (X : Cx) (f : Value → Value → Sem Value) : R2 := fun x y H Q => ∀ (pins : List (Addr × Obj)) (s : Shared) (σ : L2.St) (v u : Value), Inv X pins σ H s → RelV x v → RelV y u → wpAny (model X.prog X.w) X.A (f v u) (EP X pins σ Q) X.xe s
theorem opr_wp (f : Value → Value → Sem Value) : OpR X f (wpO X f) := fun pins s σ _ _ _ v u _ I rx ry h => h pins s σ v u I rx ry
theorem wpO_of {f : Value → Value → Sem Value} {r : R2} {x y : V} {H : Hp} {Q : VK} (h : OpR X f r) (q : r x y H Q) : wpO X f x y H Q := fun pins s σ v u I rx ry => h pins s σ H x y v u Q I rx ry q
def wpU (X : Cx) (f : Value → Sem Value) : V → Hp → VK → Prop := fun x H Q => ∀ (pins : List (Addr × Obj)) (s : Shared) (σ : L2.St) (v : Value), Inv X pins σ H s → RelV x v → wpAny (model X.prog X.w) X.A (f v) (EP X pins σ Q) X.xe s
theorem unr_wp (f : Value → Sem Value) : UnR X f (wpU X f) := fun pins s σ _ _ v _ I rx h => h pins s σ v I rx
theorem wpU_of {f : Value → Sem Value} {r : V → Hp → VK → Prop} {x : V} {H : Hp} {Q : VK} (h : UnR X f r) (q : r x H Q) : wpU X f x H Q := fun pins s σ v I rx => h pins s σ H x v Q I rx q
def wpC (X : Cx) (f : Value) : List V → Hp → VK → Prop := fun xs H Q => ∀ (pins : List (Addr × Obj)) (s : Shared) (σ : L2.St) (us : List Value), Inv X pins σ H s → Vals xs us → wpAny (model X.prog X.w) X.A (call f us) (EP X pins σ Q) X.xe s
theorem cr_wp (f : Value) : CallR X f (wpC X f) := fun pins s σ _ _ us _ I r h => h pins s σ us I r
theorem wpC_of {f : Value} {r : List V → Hp → VK → Prop} {xs : List V} {H : Hp} {Q : VK} (h : CallR X f r) (q : r xs H Q) : wpC X f xs H Q := fun pins s σ us I rx => h pins s σ H xs us Q I rx q
def wpI (X : Cx) : R2 := fun x y H Q => ∀ (value slice : Expr) (pins : List (Addr × Obj)) (s : Shared) (σ : L2.St) (v u : Value), Inv X pins σ H s → RelV x v → RelV y u → subscripted slice false v u = operate [v, u] (getItem v u) → wpAny (model X.prog X.w) X.A (subscriptTail value slice v u) (EP X pins σ Q) X.xe s
theorem ixr_wp : IxR X (wpI X) := fun value slice pins s σ _ _ _ v u _ I rx ry h hs => h value slice pins s σ v u I rx ry hs
theorem wpI_of {r : R2} {x y : V} {H : Hp} {Q : VK} (h : IxR X r) (q : r x y H Q) : wpI X x y H Q := fun value slice pins s σ v u I rx ry hs => h value slice pins s σ H x y v u Q I rx ry q hs
def wpS (X : Cx) : V → Option Int → Option Int → Hp → VK → Prop := fun x lo hi H Q => ∀ (pins : List (Addr × Obj)) (s : Shared) (σ : L2.St) (v vl vu : Value) (sl : Addr), Inv X pins σ H s → RelV x v → s.heap.IsSliceOf sl vl vu .none → IsPart vl lo → IsPart vu hi →
    ∃ T id, typeLookup (.type T) "__getitem__" = pure (some (.builtin id)) ∧ s.TypeIs v T ∧ wpAny (model X.prog X.w) X.A (getItem v (.ref sl)) (EP X pins σ Q) X.xe s
theorem slr_wp : SlR X (wpS X) := fun pins s σ _ _ v vl vu _ _ sl _ I rx hs pl pu h => h pins s σ v vl vu sl I rx hs pl pu
theorem wpS_of {r : V → Option Int → Option Int → Hp → VK → Prop} {x : V} {lo hi : Option Int} {H : Hp} {Q : VK} (h : SlR X r) (q : r x lo hi H Q) : wpS X x lo hi H Q := fun pins s σ v vl vu sl I rx hs pl pu => h pins s σ H x v vl vu lo hi sl Q I rx hs pl pu q
def wpM (X : Cx) (id : String) : V → List V → Hp → VK → Prop := fun x xs H Q => ∀ (pins : List (Addr × Obj)) (s : Shared) (σ : L2.St) (v : Value) (us : List Value), Inv X pins σ H s → RelV x v → Vals xs us → wpAny (model X.prog X.w) X.A (call (.builtin id) (v :: us)) (EP X pins σ Q) X.xe s
theorem mtr_wp (id : String) : MtR X id (wpM X id) := fun pins s σ _ _ _ v us _ I rx rs h => h pins s σ v us I rx rs
theorem wpM_of {id : String} {r : V → List V → Hp → VK → Prop} {x : V} {xs : List V} {H : Hp} {Q : VK} (h : MtR X id r) (q : r x xs H Q) : wpM X id x xs H Q := fun pins s σ v us I rx rs => h pins s σ H x xs v us Q I rx rs q
end

/-! ### the functions of expressions -/
def flat0 : D → Bool
  | .none => true
  | .bool _ => true
  | .int _ => true
  | .str _ => true
  | _ => false

def eVar (i : Nat) : En → Res D := fun ρ => match ρ[i]? with
  | some (some d) => if isLo d then .bad else .ok d
  | _ => .bad
def eC (d : D) : En → Res D := fun _ => .ok d
def e1 (g : D → Res D) (fa : En → Res D) : En → Res D := fun ρ => (fa ρ).bind g
def e2 (g : D → D → Res D) (fa fb : En → Res D) : En → Res D := fun ρ => (fa ρ).bind fun x => (fb ρ).bind fun y => g x y
def eN (g : List D → Res D) (fa : En → Res (List D)) : En → Res D := fun ρ => (fa ρ).bind g
def eIf (t : En → Res Bool) (fa fb : En → Res D) : En → Res D := fun ρ => (t ρ).bind fun b => if b then fa ρ else fb ρ
def a0 : En → Res (List D) := fun _ => .ok []
def aC (fa : En → Res D) (fr : En → Res (List D)) : En → Res (List D) := fun ρ => (fa ρ).bind fun x => (fr ρ).bind fun xs => .ok (x :: xs)
def tE (g : D → Res Bool) (fa : En → Res D) : En → Res Bool := fun ρ => (fa ρ).bind g
def tNotR (t : En → Res Bool) : En → Res Bool := fun ρ => (t ρ).bind fun b => .ok (!b)
def tAndR (t u : En → Res Bool) : En → Res Bool := fun ρ => (t ρ).bind fun b => if b then u ρ else .ok false
def tOrR (t u : En → Res Bool) : En → Res Bool := fun ρ => (t ρ).bind fun b => if b then .ok true else u ρ
def eB (t : En → Res Bool) : En → Res D := fun ρ => (t ρ).bind fun b => .ok (.bool b)
def boolD : D → Res Bool
  | .bool b => .ok b
  | _ => .bad
def LIM : Nat := 100000
def okL {α : Type} (n : Nat) (r : Res α) : Res α := if n ≤ LIM then r else .bad
def addD : D → D → Res D
  | .int i, .int j => .ok (.int (i + j))
  | .str x, .str y => okL (x.length + y.length) (.ok (.str (x ++ y)))
  | .list xs, .list ys => okL (xs.length + ys.length) (.ok (.list (xs ++ ys)))
  | _, _ => .bad
def subD : D → D → Res D
  | .int i, .int j => .ok (.int (i - j))
  | _, _ => .bad
def mulD : D → D → Res D
  | .int i, .int j => if (-(2 ^ 64) < i ∧ i < 2 ^ 64) ∨ (-(2 ^ 64) < j ∧ j < 2 ^ 64) then .ok (.int (i * j)) else .bad
  | _, _ => .bad
def fdivD : D → D → Res D
  | .int i, .int j => if j ≠ 0 ∧ j.natAbs < 1073741824 then .ok (.int (i.fdiv j)) else .bad
  | _, _ => .bad
def modD : D → D → Res D
  | .int i, .int j => if j ≠ 0 then .ok (.int (i.fmod j)) else .bad
  | _, _ => .bad
def powD : D → D → Res D
  | .int i, .int j => if 0 ≤ j ∧ j ≤ 1000000 ∧ i.natAbs < 2 ^ 64 then .ok (.int (i ^ j.toNat)) else .bad
  | _, _ => .bad
def negD : D → Res D
  | .int i => .ok (.int (-i))
  | _ => .bad
/-- two plain values -/
def scaD : D → D → Bool
  | .none, .none => true
  | .none, .int _ => true
  | .int _, .none => true
  | .none, .str _ => true
  | .str _, .none => true
  | .int _, .int _ => true
  | .bool _, .bool _ => true
  | .str _, .str _ => true
  | .int _, .str _ => true
  | .str _, .int _ => true
  | _, _ => false
def eqD (x y : D) : Res D := if scaD x y || (okd x && okd y) then .ok (.bool (PyData.eqv x y)) else .bad
def neD (x y : D) : Res D := if scaD x y || (okd x && okd y) then .ok (.bool (!PyData.eqv x y)) else .bad
def ltD : D → D → Res D
  | .int i, .int j => .ok (.bool (decide (i < j)))
  | .str x, .str y => .ok (.bool (decide (x.cps.toList < y.cps.toList)))
  | _, _ => .bad
def leD : D → D → Res D
  | .int i, .int j => .ok (.bool (decide (i ≤ j)))
  | .str x, .str y => .ok (.bool (!decide (y.cps.toList < x.cps.toList)))
  | _, _ => .bad
def gtD : D → D → Res D
  | .int i, .int j => .ok (.bool (decide (j < i)))
  | .str x, .str y => .ok (.bool (decide (y.cps.toList < x.cps.toList)))
  | _, _ => .bad
def geD : D → D → Res D
  | .int i, .int j => .ok (.bool (decide (j ≤ i)))
  | .str x, .str y => .ok (.bool (!decide (x.cps.toList < y.cps.toList)))
  | _, _ => .bad
def isNoneD : D → Bool
  | .none => true
  | _ => false
def isND (x _y : D) : Res D := .ok (.bool (isNoneD x))
def notND (x _y : D) : Res D := .ok (.bool (!isNoneD x))
def inD : D → D → Res D
  | .str x, .str y => if x.length = 1 then .ok (.bool (decide (x.cps.getD 0 0 ∈ y.cps.toList))) else .bad
  | x, .list ds => if okd x && okd (.list ds) then .ok (.bool (ds.any fun z => PyData.eqv z x)) else .bad
  | x, .tuple ds => if flat0 x && ds.all flat0 then .ok (.bool (ds.any fun z => PyData.eqv z x)) else .bad
  | _, _ => .bad
def notInD (x y : D) : Res D := (inD x y).bind fun b => match b with
  | .bool b => .ok (.bool (!b))
  | _ => .bad
def truD : D → Res Bool
  | .none => .ok false
  | .bool b => .ok b
  | .int i => .ok (i != 0)
  | .str x => okL x.length (.ok (x.length != 0))
  | .list ds => .ok (!ds.isEmpty)
  | .tuple ds => .ok (!ds.isEmpty)
  | _ => .bad
def atD : D → D → Res D
  | .list ds, .int i => match atI ds i with
    | some d => .ok d
    | none => .bad
  | .tuple ds, .int i => match atI ds i with
    | some d => .ok d
    | none => .bad
  | .str x, .int i => okL x.length (match atI x.cps.toList i with
    | some c => .ok (.str ⟨#[c]⟩)
    | none => .bad)
  | _, _ => .bad
def lenD : D → Res D
  | .list ds => .ok (.int ds.length)
  | .tuple ds => .ok (.int ds.length)
  | .str x => okL x.length (.ok (.int x.length))
  | _ => .bad
def intD : D → Res D
  | .int i => .ok (.int i)
  | .bool b => .ok (.int (if b then 1 else 0))
  | _ => .bad

/-! ### soundness -/
section
variable {TS : TabList} {X : Cx} {a b c : Expr} {fa fb fc : En → Res D} {t u : En → Res Bool} {es rest : List Expr} {fr : En → Res (List D)} {pos : Pos} {g : D → Res D} {g2 : D → D → Res D}

theorem PostG.eq {β γ : Type} {Rel : Hp → Hp → Hp → γ → β → Prop} {W : WX} {σ : L2.St} {G H : Hp} {r r' : Res β} {Q : γ → Hp → Prop} (p : PostG Rel TS X W σ G H r Q) (e : r = r') : PostG Rel TS X W σ G H r' Q := e ▸ p

theorem de_var (i : Nat) {x : Str} (hN : X.N[i]? = some x := by rfl) (hv : Vis X.env.scope x := by first | exact Or.inl rfl | exact Or.inr (Or.inl rfl) | exact Or.inr (Or.inr rfl)) (hd : (x == ("__debug__" : Str)) = false := by decide) (hcd : (x == ("__classdict__" : Str)) = false := by decide) :
    DE TS X (.Name x pos) (eVar i) := by
  refine ⟨?_⟩
  intro W ρ σ G H Q tk re ok post
  have post : PostG (RelE X.K) TS X W σ G H (eVar i ρ) Q := post
  unfold eVar at post
  refine wpE_of (pe_var hN hv hd hcd) ?_
  split at post
  · rename_i d hd
    split at post
    · exact post.elim
    · rename_i hl
      obtain ⟨v, h1, h2⟩ := re.at' i d hd (by simpa using hl)
      exact ⟨v, h1, post v G H (Gr.refl ok) h2⟩
  · exact post.elim
theorem de_c {d : D} {v : V} (h : PE X a (tC v)) (r : ∀ G, Rp X.K G v d) : DE TS X a (eC d) := by
  refine ⟨?_⟩
  intro W ρ σ G H Q tk re ok post
  exact wpE_of h (post v G H (Gr.refl ok) (r G))
theorem de_int {i : Int} {j : Nat} : DE TS X (.Constant (.int i) j pos) (eC (.int i)) := de_c pe_int fun _ => .int i
theorem de_str {x : Str} {j : Nat} : DE TS X (.Constant (.str x) j pos) (eC (.str x)) := de_c pe_str fun _ => .str x
theorem de_bl {k : Bool} {j : Nat} : DE TS X (.Constant (.bool k) j pos) (eC (.bool k)) := de_c pe_bl fun _ => .bl k
theorem de_non {j : Nat} : DE TS X (.Constant .none j pos) (eC .none) := de_c pe_non fun _ => .non
/-- a module's constant -/
theorem de_glob {x : Str} {d : D} {v : V} {w : Value} (hg : Gl X x) (hm : X.mg x = some w) (r : RelV v w) (rp : ∀ G, Rp X.K G v d) (hd : (x == ("__debug__" : Str)) = false := by decide) : DE TS X (.Name x pos) (eC d) := de_c (pe_glob hg hm r hd) rp

/-- what a two-place operation gives -/
structure OpD (TS : TabList) (X : Cx) (f : Value → Value → Sem Value) (g : D → D → Res D) : Prop where
  run : ∀ (W : WX) (σ : L2.St) (v u : V) (x y : D) (G H : Hp) (Q : VK), Ok0 TS G H → Rp X.K G v x → Rp X.K G u y → PostG (RelE X.K) TS X W σ G H (g x y) Q → wpO X f v u H Q
instance {TS : TabList} {X : Cx} {f : Value → Value → Sem Value} {g : D → D → Res D} : CoeFun (OpD TS X f g) fun _ => ∀ (W : WX) (σ : L2.St) (v u : V) (x y : D) (G H : Hp) (Q : VK), Ok0 TS G H → Rp X.K G v x → Rp X.K G u y → PostG (RelE X.K) TS X W σ G H (g x y) Q → wpO X f v u H Q := ⟨OpD.run⟩
theorem two {R : V → V → Hp → Prop} {W : WX} {ρ : En} {σ : L2.St} {G H : Hp} {Q : VK} (ha : DE TS X a fa) (hb : DE TS X b fb) (tk : Takes X W) (re : RpE TS X.K G H ρ σ) (ok : Ok0 TS G H) (post : PostG (RelE X.K) TS X W σ G H (e2 g2 fa fb ρ) Q)
    (next : ∀ v u x y G2 H2, Ok0 TS G2 H2 → Rp X.K G2 v x → Rp X.K G2 u y → PostG (RelE X.K) TS X W σ G2 H2 (g2 x y) Q → R v u H2) : wpE X a σ H fun v H1 => wpE X b σ H1 fun u H2 => R v u H2 := by
  refine bindP back_E (fun Q' h => ha W ρ σ G H Q' tk re ok h) post fun v x G1 H1 _ g1 rx post1 => ?_
  refine bindP back_E (fun Q' h => hb W ρ σ G1 H1 Q' tk (re.mono g1) g1.ok h) post1 fun u y G2 H2 _ g2' ry post2 => ?_
  exact next v u x y G2 H2 g2'.ok (rx.mono g2'.g) ry post2
theorem de_bin {op : Operator} (h : OpD TS X (binaryOp op) g2) (ha : DE TS X a fa) (hb : DE TS X b fb) : DE TS X (.BinOp a op b pos) (e2 g2 fa fb) := by
  refine ⟨?_⟩
  intro W ρ σ G H Q tk re ok post
  exact wpE_of (pe_op (opr_wp _) (pe_wp X a) (pe_wp X b)) (two ha hb tk re ok post fun v u x y G2 H2 ok2 rx ry p => h W σ v u x y G2 H2 Q ok2 rx ry p)
theorem de_cmp {op : CmpOp} (h : OpD TS X (compareOp op) g2) (ha : DE TS X a fa) (hb : DE TS X b fb) (hm : behindInMarks op b = false := by first | exact nomark _ | rfl) : DE TS X (.Compare a [op] [b] pos) (e2 g2 fa fb) := by
  refine ⟨?_⟩
  intro W ρ σ G H Q tk re ok post
  exact wpE_of (pe_cmpR (opr_wp _) (pe_wp X a) (pe_wp X b) hm) (two ha hb tk re ok post fun v u x y G2 H2 ok2 rx ry p => h W σ v u x y G2 H2 Q ok2 rx ry p)
/-- a comparison as a test: its value is a bool -/
theorem dt_cmp {op : CmpOp} (h : OpD TS X (compareOp op) g2) (ha : DE TS X a fa) (hb : DE TS X b fb) (hm : behindInMarks op b = false := by first | exact nomark _ | rfl) : DT TS X (.Compare a [op] [b] pos) (tE boolD (e2 g2 fa fb)) := by
  refine ⟨?_⟩
  intro W ρ σ G H Q tk re ok post
  refine wpT_of (pt_cmpR (opr_wp _) (pe_wp X a) (pe_wp X b) hm) ?_
  refine bindP (Ra := RelE X.K) (wp := fun R => wpE X a σ H fun v H1 => wpE X b σ H1 fun u H2 => wpO X (compareOp op) v u H2 R) back_T (fun Q' p => two ha hb tk re ok p fun v u x y G2 H2 ok2 rx ry p => h W σ v u x y G2 H2 Q' ok2 rx ry p) post fun v x G1 H1 _ g1 rx post1 => ?_
  cases rx with
  | bl k => exact ⟨k, rfl, post1 k G1 H1 (Gr.refl g1.ok) rfl⟩
  | _ => exact post1.elim
theorem okL_post {β γ : Type} {Rel : Hp → Hp → Hp → γ → β → Prop} {W : WX} {σ : L2.St} {G H : Hp} {n : Nat} {r : Res β} {Q : γ → Hp → Prop} (p : PostG Rel TS X W σ G H (okL n r) Q) : n ≤ LIM ∧ PostG Rel TS X W σ G H r Q := by
  unfold okL at p
  split at p
  · exact ⟨by assumption, p⟩
  · exact p.elim
theorem lim_line {n : Nat} (h : n ≤ LIM) : n ≤ sizeLine := Nat.le_trans h (by decide)
end
end Pyr

set_option Elab.async false
set_option linter.all false
set_option maxRecDepth 100000
set_option maxHeartbeats 1000000
namespace Pyr
open PySem PySem.Spec PyProof.Rows L2 Evl
section
variable {TS : TabList} {X : Cx} {a b c : Expr} {fa fb fc : En → Res D} {t u : En → Res Bool} {es rest : List Expr} {fr : En → Res (List D)} {pos : Pos} {g : D → Res D} {g2 : D → D → Res D}

theorem fin1 {W : WX} {σ : L2.St} {G H : Hp} {Q : VK} {d : D} {v : V} (ok : Ok0 TS G H) (p : PostG (RelE X.K) TS X W σ G H (.ok d) Q) (r : Rp X.K G v d) : Q v H := p v G H (Gr.refl ok) r

/-- list + list, lists of any kind -/
def rCatG (K : PySem.W.Frag) : R2 := fun x y H Q => ∃ l b xs zs, x = .ref l ∧ y = .ref b ∧ SqL K H l xs ∧ SqL K H b zs ∧ xs.length + zs.length ≤ sizeLine ∧ ∀ p, H p = none → Q (.ref p) (upd H p (.lst (xs ++ zs)))
theorem op_catG : OpR X (binaryOp .Add) (rCatG X.K) := by
  intro pins s σ H x y v u Q I rx ry h
  obtain ⟨l, b, xs, zs, rfl, rfl, hl, hb, hz, q⟩ := h
  cases rx
  cases ry
  obtain ⟨is1, r1, p1, _⟩ := I.list hl
  obtain ⟨is2, r2, p2, _⟩ := I.list hb
  have l1 := r1.length
  have l2 := r2.length
  obtain ⟨⟨c1, d1, t1, s1⟩, n1, ho1, hc1, hd1, ht1⟩ := p1
  obtain ⟨⟨c2, d2, t2, s2⟩, n2, ho2, hc2, hd2, ht2⟩ := p2
  simp only at hc1 hd1 ht1 hc2 hd2 ht2
  subst hc1 hd1 ht1 hc2 hd2 ht2
  refine concat_meets ⟨_, ho1, rfl⟩ ⟨_, ho2, rfl⟩ noFill_list_add seq_list_add PySem.F.slot_list_add PySem.F.entry_list_add (PySem.F.args_list_add_2 _ _) (list_addW l b is1.toArray is2.toArray n1 n2 none none s1 s2 (by simp only [List.size_toArray]; omega)) ⟨ho1, ho2, ?_⟩
  have ea : is1.toArray ++ is2.toArray = (is1 ++ is2).toArray := by simp
  rw [ea]
  exact ⟨.ref _, _, I.lnew (t' := s.toks) (r1.append r2) (by rw [List.length_append]; omega), rfl, q _ I.fresh⟩
theorem Rp.list_inv {K : PySem.W.Frag} {G : Hp} {v : V} {ds : List D} (r : Rp K G v (.list ds)) : ∃ a xs, v = .ref a ∧ SqL K G a xs ∧ Rps K G xs ds := by
  cases r with
  | lst h r => exact ⟨_, _, rfl, h, r⟩
theorem od_add : OpD TS X (binaryOp .Add) addD := by
  refine ⟨?_⟩
  intro W σ v u x y G H Q ok rx ry p
  unfold addD at p
  split at p
  · cases rx
    cases ry
    exact wpO_of op_add ⟨_, _, rfl, rfl, fin1 ok p (.int _)⟩
  · cases rx
    cases ry
    obtain ⟨h, p⟩ := okL_post p
    exact wpO_of op_add_str ⟨_, _, rfl, rfl, lim_line h, fin1 ok p (.str _)⟩
  · obtain ⟨h, p⟩ := okL_post p
    obtain ⟨l, as, rfl, hl, r1⟩ := rx.list_inv
    obtain ⟨b, bs, rfl, hb, r2⟩ := ry.list_inv
    refine wpO_of op_catG ⟨l, b, as, bs, rfl, rfl, ex_l ok.le hl, ex_l ok.le hb, lim_line (by rw [r1.len, r2.len]; exact h), fun q hq => ?_⟩
    have g := Gr.new (o := .lst (as ++ bs)) ok hq
    exact p _ _ _ g (.lst (.inl (.inl upd_same)) ((r1.app r2).mono g.g))
  · exact p.elim
theorem od_sub : OpD TS X (binaryOp .Sub) subD := by
  refine ⟨?_⟩
  intro W σ v u x y G H Q ok rx ry p
  unfold subD at p
  split at p
  · cases rx
    cases ry
    exact wpO_of op_sub ⟨_, _, rfl, rfl, fin1 ok p (.int _)⟩
  · exact p.elim
theorem od_mul : OpD TS X (binaryOp .Mult) mulD := by
  refine ⟨?_⟩
  intro W σ v u x y G H Q ok rx ry p
  unfold mulD at p
  split at p
  · cases rx
    cases ry
    split at p
    · rename_i h
      exact wpO_of op_mul ⟨_, _, rfl, rfl, h, fin1 ok p (.int _)⟩
    · exact p.elim
  · exact p.elim
theorem od_fdiv : OpD TS X (binaryOp .FloorDiv) fdivD := by
  refine ⟨?_⟩
  intro W σ v u x y G H Q ok rx ry p
  unfold fdivD at p
  split at p
  · cases rx
    cases ry
    split at p
    · rename_i h
      exact wpO_of op_fdivN ⟨_, _, rfl, rfl, h, fin1 ok p (.int _)⟩
    · exact p.elim
  · exact p.elim
theorem od_mod : OpD TS X (binaryOp .Mod) modD := by
  refine ⟨?_⟩
  intro W σ v u x y G H Q ok rx ry p
  unfold modD at p
  split at p
  · cases rx
    cases ry
    split at p
    · rename_i h
      exact wpO_of op_modN ⟨_, _, rfl, rfl, h, fin1 ok p (.int _)⟩
    · exact p.elim
  · exact p.elim
theorem od_pow : OpD TS X (binaryOp .Pow) powD := by
  refine ⟨?_⟩
  intro W σ v u x y G H Q ok rx ry p
  unfold powD at p
  split at p
  · cases rx
    cases ry
    split at p
    · rename_i h
      exact wpO_of op_pow ⟨_, _, rfl, rfl, h, fin1 ok p (.int _)⟩
    · exact p.elim
  · exact p.elim
theorem de_neg (ha : DE TS X a fa) : DE TS X (.UnaryOp .USub a pos) (e1 negD fa) := by
  refine ⟨?_⟩
  intro W ρ σ G H Q tk re ok post
  refine wpE_of (pe_un un_neg (pe_wp X a)) ?_
  refine bindP (wp := fun R => wpE X a σ H R) back_E (fun Q' p => ha W ρ σ G H Q' tk re ok p) post fun v x G1 H1 _ g1 rx p => ?_
  unfold negD at p
  split at p
  · cases rx
    exact ⟨_, rfl, fin1 g1.ok p (.int _)⟩
  · exact p.elim
theorem eq_eqv {K : PySem.W.Frag} {G : Hp} {v u : V} {x y : D} (rx : Rp K G v x) (ry : Rp K G u y) (h : scaD x y = true) : scal v u = true ∧ decide (v = u) = PyData.eqv x y := by
  cases rx <;> cases ry <;> simp [scaD] at h <;> refine ⟨rfl, ?_⟩ <;> simp only [PyData.eqv] <;> rw [Bool.eq_iff_iff] <;> simp
theorem od_eq (C : CtE X) : OpD TS X (compareOp .Eq) eqD := by
  refine ⟨?_⟩
  intro W σ v u x y G H Q ok rx ry p
  unfold eqD at p
  split at p
  · rename_i h
    by_cases hs : scaD x y = true
    · obtain ⟨h1, h2⟩ := eq_eqv rx ry hs
      exact wpO_of op_eq ⟨h1, by rw [h2]; exact fin1 ok p (.bl _)⟩
    · rw [Bool.or_eq_true, Bool.and_eq_true] at h
      obtain ⟨hx, hy⟩ := h.resolve_left hs
      exact wpO_of (op_eqD (by have := C.un; omega)) ⟨x, y, (rx.mono ok.le).okdp hx, (ry.mono ok.le).okdp hy, okd_shaped hx, okd_shaped hy, fin1 ok p (.bl _)⟩
  · exact p.elim
theorem od_ne (C : CtE X) : OpD TS X (compareOp .NotEq) neD := by
  refine ⟨?_⟩
  intro W σ v u x y G H Q ok rx ry p
  unfold neD at p
  split at p
  · rename_i h
    by_cases hs : scaD x y = true
    · obtain ⟨h1, h2⟩ := eq_eqv rx ry hs
      exact wpO_of op_ne ⟨h1, by rw [h2]; exact fin1 ok p (.bl _)⟩
    · rw [Bool.or_eq_true, Bool.and_eq_true] at h
      obtain ⟨hx, hy⟩ := h.resolve_left hs
      exact wpO_of (op_neD (by have := C.un; omega)) ⟨x, y, (rx.mono ok.le).okdp hx, (ry.mono ok.le).okdp hy, okd_shaped hx, okd_shaped hy, fin1 ok p (.bl _)⟩
  · exact p.elim
theorem od_lt : OpD TS X (compareOp .Lt) ltD := by
  refine ⟨?_⟩
  intro W σ v u x y G H Q ok rx ry p
  unfold ltD at p
  split at p
  · cases rx
    cases ry
    exact wpO_of op_lt ⟨_, _, rfl, rfl, fin1 ok p (.bl _)⟩
  · cases rx
    cases ry
    exact wpO_of op_lt_str ⟨_, _, rfl, rfl, fin1 ok p (.bl _)⟩
  · exact p.elim
theorem od_le : OpD TS X (compareOp .LtE) leD := by
  refine ⟨?_⟩
  intro W σ v u x y G H Q ok rx ry p
  unfold leD at p
  split at p
  · cases rx
    cases ry
    exact wpO_of op_le ⟨_, _, rfl, rfl, fin1 ok p (.bl _)⟩
  · cases rx
    cases ry
    exact wpO_of op_le_str ⟨_, _, rfl, rfl, fin1 ok p (.bl _)⟩
  · exact p.elim
theorem od_gt : OpD TS X (compareOp .Gt) gtD := by
  refine ⟨?_⟩
  intro W σ v u x y G H Q ok rx ry p
  unfold gtD at p
  split at p
  · cases rx
    cases ry
    exact wpO_of op_gt ⟨_, _, rfl, rfl, fin1 ok p (.bl _)⟩
  · cases rx
    cases ry
    exact wpO_of op_gt_str ⟨_, _, rfl, rfl, fin1 ok p (.bl _)⟩
  · exact p.elim
theorem od_ge : OpD TS X (compareOp .GtE) geD := by
  refine ⟨?_⟩
  intro W σ v u x y G H Q ok rx ry p
  unfold geD at p
  split at p
  · cases rx
    cases ry
    exact wpO_of op_ge ⟨_, _, rfl, rfl, fin1 ok p (.bl _)⟩
  · cases rx
    cases ry
    exact wpO_of op_ge_str ⟨_, _, rfl, rfl, fin1 ok p (.bl _)⟩
  · exact p.elim
theorem none_iff {K : PySem.W.Frag} {G : Hp} {v : V} {x : D} (r : Rp K G v x) : decide (v = .non) = isNoneD x := by
  cases r <;> rfl

theorem od_isN : OpD TS X (compareOp .Is) (fun x y => match y with | .none => isND x y | _ => .bad) := by
  refine ⟨?_⟩
  intro W σ v u x y G H Q ok rx ry p
  cases ry <;> first | exact p.elim | skip
  exact wpO_of op_isN ⟨rfl, by rw [none_iff rx]; exact fin1 ok p (.bl _)⟩
theorem od_notN : OpD TS X (compareOp .IsNot) (fun x y => match y with | .none => notND x y | _ => .bad) := by
  refine ⟨?_⟩
  intro W σ v u x y G H Q ok rx ry p
  cases ry <;> first | exact p.elim | skip
  exact wpO_of op_notN ⟨rfl, by rw [none_iff rx]; exact fin1 ok p (.bl _)⟩
theorem Rp.tup_inv {K : PySem.W.Frag} {G : Hp} {v : V} {ds : List D} (r : Rp K G v (.tuple ds)) : ∃ a xs, v = .ref a ∧ SqT K G a xs ∧ Rps K G xs ds := by
  cases r with
  | tup h r => exact ⟨_, _, rfl, h, r⟩
theorem eN_post {W : WX} {σ : L2.St} {G H : Hp} {R : Res D} {Q : VK} (p : PostG (RelE X.K) TS X W σ G H R Q) {c : Prop} {d : D} (e : R = .ok d) : PostG (RelE X.K) TS X W σ G H (.ok d) Q := by
  rw [← e]
  exact p

/-! #### tests -/
theorem dt_tru (ha : DE TS X a fa) (he : ∀ whole, isTrue a X.env whole = (do let v ← whole; standAt a.pos; holding [v] (truthy v)) := by intro _; rfl) : DT TS X a (tE truD fa) := by
  refine ⟨?_⟩
  intro W ρ σ G H Q tk re ok post
  refine wpT_of (pt_truth (pe_wp X a) he) ?_
  refine bindP (wp := fun R => wpE X a σ H R) back_T (fun Q' p => ha W ρ σ G H Q' tk re ok p) post fun v x G1 H1 _ g1 rx p => ?_
  have fin : ∀ {k : Bool}, PostG RelT TS X W σ G1 H1 (.ok k) Q → Q k H1 := fun {k} p => p k G1 H1 (Gr.refl g1.ok) rfl
  unfold truD at p
  split at p
  · cases rx
    exact ⟨_, rfl, fin p⟩
  · cases rx
    exact ⟨_, rfl, fin p⟩
  · cases rx
    exact ⟨_, rfl, fin p⟩
  · cases rx
    obtain ⟨h, p⟩ := okL_post p
    refine ⟨_, ⟨lim_line h, rfl⟩, ?_⟩
    have e : ∀ n : Nat, ((n : Int) != 0) = (n != 0) := fun n => by
      rw [Bool.eq_iff_iff]
      simp
    rw [e]
    exact fin p
  · obtain ⟨a, xs, rfl, h, r⟩ := rx.list_inv
    refine ⟨_, .inl ⟨xs, ex_l g1.ok.le h, rfl⟩, ?_⟩
    have e : xs.isEmpty = (List.isEmpty (by assumption : List D)) := by
      cases r <;> rfl
    rw [e]
    exact fin p
  · obtain ⟨a, xs, rfl, h, r⟩ := rx.tup_inv
    refine ⟨_, .inr (.inl ⟨xs, ex_t g1.ok.le h, rfl⟩), ?_⟩
    have e : xs.isEmpty = (List.isEmpty (by assumption : List D)) := by
      cases r <;> rfl
    rw [e]
    exact fin p
  · exact p.elim
theorem dt_not (ht : DT TS X a t) : DT TS X (.UnaryOp .Not a pos) (tNotR t) := by
  refine ⟨?_⟩
  intro W ρ σ G H Q tk re ok post
  refine wpT_of (pt_not (pt_wp X a)) ?_
  exact bindP (wp := fun R => wpT X a σ H R) back_T (fun Q' p => ht W ρ σ G H Q' tk re ok p) post fun v x G1 H1 _ g1 rx p => by
    subst rx
    exact p _ G1 H1 (Gr.refl g1.ok) rfl
def wpW (X : Cx) (e : Expr) : TT := fun σ H Q => ∀ (whole : Sem Value) (pins : List (Addr × Obj)) (s : Shared), Inv X pins σ H s → wpAny (model X.prog X.w) X.A (isTrue e X.env whole) (TP X pins σ Q) X.xe s
theorem pw_wp (X : Cx) (e : Expr) : PW X e (wpW X e) := ⟨fun whole pins s _ _ _ I h => h whole pins s I⟩
theorem wpW_of {e : Expr} {t : TT} {σ : L2.St} {H : Hp} {Q : Bool → Hp → Prop} (h : PW X e t) (q : t σ H Q) : wpW X e σ H Q := fun whole pins s I => h.run whole pins s σ H Q I q
structure DW (TS : TabList) (X : Cx) (e : Expr) (f : En → Res Bool) : Prop where
  run : ∀ (W : WX) (ρ : En) (σ : L2.St) (G H : Hp) (Q : Bool → Hp → Prop), Takes X W → RpE TS X.K G H ρ σ → Ok0 TS G H → PostG RelT TS X W σ G H (f ρ) Q → wpW X e σ H Q
instance {TS : TabList} {X : Cx} {e : Expr} {f : En → Res Bool} : CoeFun (DW TS X e f) fun _ => ∀ (W : WX) (ρ : En) (σ : L2.St) (G H : Hp) (Q : Bool → Hp → Prop), Takes X W → RpE TS X.K G H ρ σ → Ok0 TS G H → PostG RelT TS X W σ G H (f ρ) Q → wpW X e σ H Q := ⟨DW.run⟩
theorem DW.dt (h : DW TS X a t) : DT TS X a t := .mk fun W ρ σ G H Q tk re ok post => wpT_of (PW.pt (pw_wp X a)) (h W ρ σ G H Q tk re ok post)
theorem dw_and1 (h : DT TS X a t) : DW TS X (.BoolOp .And [a] pos) t := .mk fun W ρ σ G H Q tk re ok post => wpW_of (pw_and1 (pt_wp X a)) (h W ρ σ G H Q tk re ok post)
theorem dw_or1 (h : DT TS X a t) : DW TS X (.BoolOp .Or [a] pos) t := .mk fun W ρ σ G H Q tk re ok post => wpW_of (pw_or1 (pt_wp X a)) (h W ρ σ G H Q tk re ok post)
theorem dw_and (h : DT TS X a t) (h2 : DW TS X (.BoolOp .And (b :: rest) pos) u) : DW TS X (.BoolOp .And (a :: b :: rest) pos) (tAndR t u) := by
  refine ⟨?_⟩
  intro W ρ σ G H Q tk re ok post
  refine wpW_of (pw_and (pt_wp X a) (pw_wp X _)) ?_
  refine bindP (wp := fun R => wpT X a σ H R) back_T (fun Q' p => h W ρ σ G H Q' tk re ok p) post fun v x G1 H1 _ g1 rx p => ?_
  subst rx
  cases v with
  | true => exact iteT (h2 W ρ σ G1 H1 Q tk (re.mono g1) g1.ok p)
  | false => exact iteF (p _ G1 H1 (Gr.refl g1.ok) rfl)
theorem dw_or (h : DT TS X a t) (h2 : DW TS X (.BoolOp .Or (b :: rest) pos) u) : DW TS X (.BoolOp .Or (a :: b :: rest) pos) (tOrR t u) := by
  refine ⟨?_⟩
  intro W ρ σ G H Q tk re ok post
  refine wpW_of (pw_or (pt_wp X a) (pw_wp X _)) ?_
  refine bindP (wp := fun R => wpT X a σ H R) back_T (fun Q' p => h W ρ σ G H Q' tk re ok p) post fun v x G1 H1 _ g1 rx p => ?_
  subst rx
  cases v with
  | true => exact iteT (p _ G1 H1 (Gr.refl g1.ok) rfl)
  | false => exact iteF (h2 W ρ σ G1 H1 Q tk (re.mono g1) g1.ok p)
/-- and, or as values (all but the last a bool) -/
def eAnd (fa fb : En → Res D) : En → Res D := fun ρ => (fa ρ).bind fun x => (boolD x).bind fun k => if k then fb ρ else .ok (.bool false)
def eOr (fa fb : En → Res D) : En → Res D := fun ρ => (fa ρ).bind fun x => (boolD x).bind fun k => if k then .ok (.bool true) else fb ρ
def eNot (fa : En → Res D) : En → Res D := fun ρ => (fa ρ).bind fun x => (boolD x).bind fun k => .ok (.bool (!k))
theorem de_one {op : BoolOp} (h : DE TS X a fa) : DE TS X (.BoolOp op [a] pos) fa := .mk fun W ρ σ G H Q tk re ok post => wpE_of (pe_one (pe_wp X a)) (h W ρ σ G H Q tk re ok post)
theorem de_and (h : DE TS X a fa) (h2 : DE TS X (.BoolOp .And (b :: rest) pos) fb) : DE TS X (.BoolOp .And (a :: b :: rest) pos) (eAnd fa fb) := by
  refine ⟨?_⟩
  intro W ρ σ G H Q tk re ok post
  refine wpE_of (pe_and (pe_wp X a) (pe_wp X _)) ?_
  refine bindP (wp := fun R => wpE X a σ H R) back_E (fun Q' p => h W ρ σ G H Q' tk re ok p) post fun v x G1 H1 _ g1 rx p => ?_
  cases rx with
  | bl k =>
    refine ⟨k, rfl, ?_⟩
    cases k with
    | true => exact iteT (h2 W ρ σ G1 H1 Q tk (re.mono g1) g1.ok p)
    | false => exact iteF (fin1 g1.ok p (.bl _))
  | _ => exact p.elim
theorem de_or (h : DE TS X a fa) (h2 : DE TS X (.BoolOp .Or (b :: rest) pos) fb) : DE TS X (.BoolOp .Or (a :: b :: rest) pos) (eOr fa fb) := by
  refine ⟨?_⟩
  intro W ρ σ G H Q tk re ok post
  refine wpE_of (pe_or (pe_wp X a) (pe_wp X _)) ?_
  refine bindP (wp := fun R => wpE X a σ H R) back_E (fun Q' p => h W ρ σ G H Q' tk re ok p) post fun v x G1 H1 _ g1 rx p => ?_
  cases rx with
  | bl k =>
    refine ⟨k, rfl, ?_⟩
    cases k with
    | true => exact iteT (fin1 g1.ok p (.bl _))
    | false => exact iteF (h2 W ρ σ G1 H1 Q tk (re.mono g1) g1.ok p)
  | _ => exact p.elim
theorem de_not (h : DE TS X a fa) : DE TS X (.UnaryOp .Not a pos) (eNot fa) := by
  refine ⟨?_⟩
  intro W ρ σ G H Q tk re ok post
  refine wpE_of (pe_not (pe_wp X a)) ?_
  refine bindP (wp := fun R => wpE X a σ H R) back_E (fun Q' p => h W ρ σ G H Q' tk re ok p) post fun v x G1 H1 _ g1 rx p => ?_
  cases rx with
  | bl k => exact ⟨k, rfl, fin1 g1.ok p (.bl _)⟩
  | _ => exact p.elim
theorem de_if (ht : DT TS X c t) (ha : DE TS X a fa) (hb : DE TS X b fb) : DE TS X (.IfExp c a b pos) (eIf t fa fb) := by
  refine ⟨?_⟩
  intro W ρ σ G H Q tk re ok post
  refine wpE_of (pe_ifExp (pt_wp X c) (pe_wp X a) (pe_wp X b)) ?_
  refine bindP (wp := fun R => wpT X c σ H R) back_E (fun Q' p => ht W ρ σ G H Q' tk re ok p) post fun v x G1 H1 _ g1 rx p => ?_
  subst rx
  cases v with
  | true => exact iteT (ha W ρ σ G1 H1 Q tk (re.mono g1) g1.ok p)
  | false => exact iteF (hb W ρ σ G1 H1 Q tk (re.mono g1) g1.ok p)
def eChain (g g' : D → D → Res D) (fa fb fc : En → Res D) : En → Res D := fun ρ => (fa ρ).bind fun x => (fb ρ).bind fun y => (g x y).bind fun z => (boolD z).bind fun k => if k then (fc ρ).bind fun w => g' y w else .ok (.bool false)
theorem chain_ok {op op' : CmpOp} {g g' : D → D → Res D} {W : WX} {ρ : En} {σ : L2.St} {G H : Hp} {Q : VK} (o1 : OpD TS X (compareOp op) g) (o2 : OpD TS X (compareOp op') g') (ha : DE TS X a fa) (hb : DE TS X b fb) (hc : DE TS X c fc)
    (tk : Takes X W) (re : RpE TS X.K G H ρ σ) (ok : Ok0 TS G H) (post : PostG (RelE X.K) TS X W σ G H (eChain g g' fa fb fc ρ) Q) : tChain (wpO X (compareOp op)) (wpO X (compareOp op')) (wpE X a) (wpE X b) (wpE X c) σ H Q := by
  refine bindP (wp := fun R => wpE X a σ H R) back_E (fun Q' p => ha W ρ σ G H Q' tk re ok p) post fun v x G1 H1 _ g1 rx p => ?_
  refine bindP (wp := fun R => wpE X b σ H1 R) back_E (fun Q' q => hb W ρ σ G1 H1 Q' tk (re.mono g1) g1.ok q) p fun u y G2 H2 _ g2 ry p => ?_
  refine bindP (wp := fun R => wpO X (compareOp op) v u H2 R) back_E (fun Q' q => o1 W σ v u x y G2 H2 Q' g2.ok (rx.mono g2.g) ry q) p fun z zd G3 H3 _ g3 rz p => ?_
  cases rz with
  | bl k =>
    refine ⟨k, rfl, ?_⟩
    cases k with
    | true =>
      refine iteT (bindP (wp := fun R => wpE X c σ H3 R) back_E (fun Q' q => hc W ρ σ G3 H3 Q' tk (((re.mono g1).mono g2).mono g3) g3.ok q) p fun w' wd G4 H4 _ g4 rw' p => ?_)
      exact o2 W σ u w' y wd G4 H4 Q g4.ok ((ry.mono g3.g).mono g4.g) rw' p
    | false => exact iteF (fin1 g3.ok p (.bl _))
  | _ => exact p.elim
theorem de_chain {op op' : CmpOp} {g g' : D → D → Res D} (o1 : OpD TS X (compareOp op) g) (o2 : OpD TS X (compareOp op') g') (ha : DE TS X a fa) (hb : DE TS X b fb) (hc : DE TS X c fc) (hm : lastMarks [op, op'] [b, c] = false := by with_unfolding_all rfl) :
    DE TS X (.Compare a [op, op'] [b, c] pos) (eChain g g' fa fb fc) := by
  refine ⟨?_⟩
  intro W ρ σ G H Q tk re ok post
  exact wpE_of (pe_chain (opr_wp _) (opr_wp _) (pe_wp X a) (pe_wp X b) (pe_wp X c) hm) (chain_ok o1 o2 ha hb hc tk re ok post)
theorem dt_chain {op op' : CmpOp} {g g' : D → D → Res D} (o1 : OpD TS X (compareOp op) g) (o2 : OpD TS X (compareOp op') g') (ha : DE TS X a fa) (hb : DE TS X b fb) (hc : DE TS X c fc) (hm : lastMarks [op, op'] [b, c] = false := by with_unfolding_all rfl) :
    DT TS X (.Compare a [op, op'] [b, c] pos) (tE boolD (eChain g g' fa fb fc)) := by
  refine ⟨?_⟩
  intro W ρ σ G H Q tk re ok post
  refine wpT_of (pt_chain (opr_wp _) (opr_wp _) (pe_wp X a) (pe_wp X b) (pe_wp X c) hm) ?_
  refine bindP (Ra := RelE X.K) (wp := fun R => tChain (wpO X (compareOp op)) (wpO X (compareOp op')) (wpE X a) (wpE X b) (wpE X c) σ H R) back_T (fun Q' p => chain_ok o1 o2 ha hb hc tk re ok p) post fun v x G1 H1 _ g1 rx p => ?_
  cases rx with
  | bl k => exact ⟨k, rfl, p k G1 H1 (Gr.refl g1.ok) rfl⟩
  | _ => exact p.elim

/-! #### arguments, displays -/
theorem da_nil : DA TS X [] a0 := by
  refine ⟨?_⟩
  intro W ρ σ G H Q tk re ok post
  exact wpA_of pa_nil (post [] G H (Gr.refl ok) .nil)
theorem da_cons (ha : DE TS X a fa) (hr : DA TS X es fr) (hs : starEach (a :: es) X.env = (false, eval a X.env) :: starEach es X.env := by rfl) : DA TS X (a :: es) (aC fa fr) := by
  refine ⟨?_⟩
  intro W ρ σ G H Q tk re ok post
  refine wpA_of (pa_cons (pe_wp X a) (pa_wp X es) hs) ?_
  refine bindP (wp := fun R => wpE X a σ H R) back_A (fun Q' p => ha W ρ σ G H Q' tk re ok p) post fun v x G1 H1 _ g1 rx p => ?_
  refine bindP (wp := fun R => wpA X es σ H1 R) back_A (fun Q' q => hr W ρ σ G1 H1 Q' tk (re.mono g1) g1.ok q) p fun vs xs G2 H2 _ g2 rxs p => ?_
  exact p _ G2 H2 (Gr.refl g2.ok) (.cons (rx.mono g2.g) rxs)
def tupD (ds : List D) : Res D := okL ds.length (.ok (.tuple ds))
theorem de_tup {x1} (ha : DA TS X es fr) : DE TS X (.Tuple es x1 pos) (eN tupD fr) := by
  refine ⟨?_⟩
  intro W ρ σ G H Q tk re ok post
  refine wpE_of (pe_tup (pa_wp X es)) ?_
  refine bindP (wp := fun R => wpA X es σ H R) back_E (fun Q' p => ha W ρ σ G H Q' tk re ok p) post fun vs xs G1 H1 _ g1 rxs p => ?_
  obtain ⟨h, p⟩ := okL_post p
  refine ⟨lim_line (by rw [rxs.len]; exact h), fun q hq => ?_⟩
  have g := Gr.new (o := .tup vs) g1.ok hq
  exact p _ _ _ g (.tup (.inl (.inl upd_same)) (rxs.mono g.g))
def lN (fr : En → Res (List D)) : En → Res (List D) := fun ρ => (fr ρ).bind fun ds => okL ds.length (.ok ds)
theorem dl_lst (ha : DA TS X es fr) : DL TS X (.List es pos) (lN fr) := by
  refine ⟨?_⟩
  intro W ρ σ G H Q tk re ok post
  refine wpE_of (pe_lst (pa_wp X es)) ?_
  refine bindP (wp := fun R => wpA X es σ H R) back_L (fun Q' p => ha W ρ σ G H Q' tk re ok p) post fun vs xs G1 H1 _ g1 rxs p => ?_
  obtain ⟨h, p⟩ := okL_post p
  refine ⟨lim_line (by rw [rxs.len]; exact h), fun q hq => ?_⟩
  exact p _ _ _ (Gr.own (o := .lst vs) g1.ok hq) ⟨q, vs, rfl, hq, fresh_back g1.ok.le hq, upd_same, rxs⟩

/-! #### subscripts -/
theorem atI_rel {K : PySem.W.Frag} {G : Hp} {xs : List V} {ds : List D} {i : Int} {d : D} (r : Rps K G xs ds) (h : atI ds i = some d) : ∃ v, atI xs i = some v ∧ Rp K G v d := by
  unfold atI at h ⊢
  rw [r.len]
  cases e : ixN ds.length i with
  | none =>
    rw [e] at h
    cases h
  | some j =>
    rw [e] at h
    exact r.at h
theorem de_ix (ha : DE TS X a fa) (hb : DE TS X b fb) (hs : PlainIx b := by exact fun _ _ => rfl) : DE TS X (.Subscript a b pos) (e2 atD fa fb) := by
  refine ⟨?_⟩
  intro W ρ σ G H Q tk re ok post
  refine wpE_of (pe_ix ixr_wp (pe_wp X a) (pe_wp X b) hs) (two ha hb tk re ok post fun v u x y G2 H2 ok2 rx ry p => ?_)
  unfold atD at p
  split at p
  · obtain ⟨l, xs, rfl, h, r⟩ := rx.list_inv
    cases ry
    split at p
    · rename_i d hd
      obtain ⟨v, h1, h2⟩ := atI_rel r hd
      exact wpI_of ix_list ⟨l, xs, _, v, rfl, rfl, ex_l ok2.le h, h1, fin1 ok2 p h2⟩
    · exact p.elim
  · obtain ⟨l, xs, rfl, h, r⟩ := rx.tup_inv
    cases ry
    split at p
    · rename_i d hd
      obtain ⟨v, h1, h2⟩ := atI_rel r hd
      exact wpI_of ix_tup ⟨l, xs, _, v, rfl, rfl, ex_t ok2.le h, h1, fin1 ok2 p h2⟩
    · exact p.elim
  · cases rx
    cases ry
    obtain ⟨hl, p⟩ := okL_post p
    split at p
    · rename_i d hd
      exact wpI_of ix_str ⟨_, _, d, rfl, rfl, lim_line hl, hd, fin1 ok2 p (.str _)⟩
    · exact p.elim
  · exact p.elim
end
end Pyr

set_option Elab.async false
set_option linter.all false
set_option maxRecDepth 100000
set_option maxHeartbeats 1000000
namespace Pyr
open PySem PySem.Spec PyProof.Rows L2 Evl

/-! ### slices -/
def cutG {α : Type} (xs : List α) (lo hi : Option Int) : List α := (xs.drop (HT.sIx xs.length 0 lo)).take (HT.sIx xs.length xs.length hi - HT.sIx xs.length 0 lo)
theorem cutV_eq (xs : List V) (lo hi : Option Int) : cutV xs lo hi = cutG xs lo hi := rfl
theorem Rps.slice {K : PySem.W.Frag} {G : Hp} {xs : List V} {ds : List D} (r : Rps K G xs ds) (lo hi : Option Int) : Rps K G (cutG xs lo hi) (cutG ds lo hi) := by
  unfold cutG
  rw [r.len]
  exact (r.off _).cut _
theorem cutG_len {α : Type} (xs : List α) (lo hi : Option Int) : (cutG xs lo hi).length ≤ xs.length := by
  unfold cutG
  rw [List.length_take, List.length_drop]
  omega
def wpPO (X : Cx) (oe : Option Expr) : TO := match oe with
  | none => tNoPart
  | some e => tPart (wpE X e)
theorem po_wp (X : Cx) : ∀ oe : Option Expr, PO X oe (wpPO X oe)
  | none => po_none
  | some e => po_some (pe_wp X e)
def optI : D → Res (Option Int)
  | .int i => .ok (some i)
  | _ => .bad
def oNone : En → Res (Option Int) := fun _ => .ok none
def oSome (fa : En → Res D) : En → Res (Option Int) := fun ρ => (fa ρ).bind optI
abbrev RelO : Hp → Hp → Hp → Option Int → Option Int → Prop := fun _ _ _ v b => v = b
theorem back_O : Back RelO := fun _ _ _ _ _ _ _ h => h
structure DO (TS : TabList) (X : Cx) (oe : Option Expr) (f : En → Res (Option Int)) : Prop where
  run : ∀ (W : WX) (ρ : En) (σ : L2.St) (G H : Hp) (Q : Option Int → Hp → Prop), Takes X W → RpE TS X.K G H ρ σ → Ok0 TS G H → PostG RelO TS X W σ G H (f ρ) Q → wpPO X oe σ H Q
instance {TS : TabList} {X : Cx} {oe : Option Expr} {f : En → Res (Option Int)} : CoeFun (DO TS X oe f) fun _ => ∀ (W : WX) (ρ : En) (σ : L2.St) (G H : Hp) (Q : Option Int → Hp → Prop), Takes X W → RpE TS X.K G H ρ σ → Ok0 TS G H → PostG RelO TS X W σ G H (f ρ) Q → wpPO X oe σ H Q := ⟨DO.run⟩
def sliceD (x : D) (lo hi : Option Int) : Res D := match x with
  | .str z => okL z.length (.ok (.str (cutS z lo hi)))
  | .tuple ds => .ok (.tuple (cutG ds lo hi))
  | .list ds => .ok (.list (cutG ds lo hi))
  | _ => .bad
def eSlice (fa : En → Res D) (fl fh : En → Res (Option Int)) : En → Res D := fun ρ => (fa ρ).bind fun x => (fl ρ).bind fun lo => (fh ρ).bind fun hi => sliceD x lo hi
def listD : D → Res (List D)
  | .list ds => .ok ds
  | _ => .bad
def lSlice (fa : En → Res D) (fl fh : En → Res (Option Int)) : En → Res (List D) := fun ρ => (fa ρ).bind fun x => (fl ρ).bind fun lo => (fh ρ).bind fun hi => (listD x).bind fun ds => .ok (cutG ds lo hi)

section
variable {TS : TabList} {X : Cx} {a b c : Expr} {fa fb fc : En → Res D} {t u : En → Res Bool} {es rest : List Expr} {fr : En → Res (List D)} {pos p2 : Pos} {g : D → Res D} {g2 : D → D → Res D} {lo hi : Option Expr} {fl fh : En → Res (Option Int)}
theorem do_none : DO TS X none oNone := .mk fun W ρ σ G H Q tk re ok post => post none G H (Gr.refl ok) rfl
theorem do_some (ha : DE TS X a fa) : DO TS X (some a) (oSome fa) := by
  refine ⟨?_⟩
  intro W ρ σ G H Q tk re ok post
  refine bindP (wp := fun R => wpE X a σ H R) back_O (fun Q' p => ha W ρ σ G H Q' tk re ok p) post fun v x G1 H1 _ g1 rx p => ?_
  unfold optI at p
  split at p
  · cases rx
    exact ⟨_, rfl, p _ G1 H1 (Gr.refl g1.ok) rfl⟩
  · exact p.elim
theorem three {β γ : Type} {Rel : Hp → Hp → Hp → γ → β → Prop} (bk : Back Rel) {k : D → Option Int → Option Int → Res β} {W : WX} {ρ : En} {σ : L2.St} {G H : Hp} {Q : γ → Hp → Prop} {R : V → Option Int → Option Int → Hp → Prop} (ha : DE TS X a fa) (hl : DO TS X lo fl) (hh : DO TS X hi fh) (tk : Takes X W) (re : RpE TS X.K G H ρ σ) (ok : Ok0 TS G H)
    (post : PostG Rel TS X W σ G H ((fa ρ).bind fun x => (fl ρ).bind fun lo => (fh ρ).bind fun hi => k x lo hi) Q)
    (next : ∀ v x l h G2 H2, Gr TS G H G2 H2 → Rp X.K G2 v x → PostG Rel TS X W σ G2 H2 (k x l h) Q → R v l h H2) : wpE X a σ H fun v H1 => wpPO X lo σ H1 fun l H2 => wpPO X hi σ H2 fun h H3 => R v l h H3 := by
  refine bindP (wp := fun R => wpE X a σ H R) bk (fun Q' p => ha W ρ σ G H Q' tk re ok p) post fun v x G1 H1 _ g1 rx p => ?_
  refine bindP (wp := fun R => wpPO X lo σ H1 R) bk (fun Q' q => hl W ρ σ G1 H1 Q' tk (re.mono g1) g1.ok q) p fun l l' G2 H2 _ g2 rl p => ?_
  refine bindP (wp := fun R => wpPO X hi σ H2 R) bk (fun Q' q => hh W ρ σ G2 H2 Q' tk ((re.mono g1).mono g2) g2.ok q) p fun h h' G3 H3 _ g3 rh p => ?_
  subst rl
  subst rh
  exact next v x l h G3 H3 ((g1.trans g2).trans g3) ((rx.mono g2.g).mono g3.g) p
theorem de_slice (ha : DE TS X a fa) (hl : DO TS X lo fl) (hh : DO TS X hi fh) : DE TS X (.Subscript a (.Slice lo hi none p2) pos) (eSlice fa fl fh) := by
  refine ⟨?_⟩
  intro W ρ σ G H Q tk re ok post
  refine wpE_of (pe_slice slr_wp (pe_wp X a) (po_wp X lo) (po_wp X hi)) (three (Rel := RelE X.K) back_E ha hl hh tk re ok post fun v x l h G2 H2 g2 rx p => ?_)
  have ok2 := g2.ok
  unfold sliceD at p
  split at p
  · cases rx
    obtain ⟨hl, p⟩ := okL_post p
    exact wpS_of sl_str ⟨_, rfl, lim_line hl, fin1 ok2 p (.str _)⟩
  · obtain ⟨q, xs, rfl, hq, r⟩ := rx.tup_inv
    refine wpS_of sl_tupA ⟨q, xs, rfl, ex_t ok2.le hq, fun ⟨w1, w2⟩ => ?_, fun _ q' hq' => ?_⟩
    · refine fin1 ok2 p (.tup hq ?_)
      have z := r.slice l h
      unfold cutG at z
      rw [w1, w2, List.drop_zero, Nat.sub_zero, List.take_length] at z
      exact z
    · have g := Gr.new (o := .tup (cutV xs l h)) ok2 hq'
      exact p _ _ _ g (.tup (.inl (.inl upd_same)) ((r.slice l h).mono g.g))
  · obtain ⟨q, xs, rfl, hq, r⟩ := rx.list_inv
    refine wpS_of sl_list ⟨q, xs, rfl, ex_l ok2.le hq, fun q' hq' => ?_⟩
    have g := Gr.new (o := .lst (cutV xs l h)) ok2 hq'
    exact p _ _ _ g (.lst (.inl (.inl upd_same)) ((r.slice l h).mono g.g))
  · exact p.elim
theorem dl_slice (ha : DE TS X a fa) (hl : DO TS X lo fl) (hh : DO TS X hi fh) : DL TS X (.Subscript a (.Slice lo hi none p2) pos) (lSlice fa fl fh) := by
  refine ⟨?_⟩
  intro W ρ σ G H Q tk re ok post
  refine wpE_of (pe_slice slr_wp (pe_wp X a) (po_wp X lo) (po_wp X hi)) (three (Rel := RelL X.K) back_L ha hl hh tk re ok post fun v x l h G2 H2 g2 rx p => ?_)
  have ok2 := g2.ok
  cases x with
  | list ds =>
    obtain ⟨q, xs, rfl, hq, r⟩ := rx.list_inv
    refine wpS_of sl_list ⟨q, xs, rfl, ex_l ok2.le hq, fun q' hq' => ?_⟩
    exact p _ _ _ (Gr.own (o := .lst (cutV xs l h)) ok2 hq') ⟨q', _, rfl, hq', fresh_back ok2.le hq', upd_same, r.slice l h⟩
  | _ => exact p.elim

/-! ### built-in calls -/
structure CallD (TS : TabList) (X : Cx) (f : Value) (g : List D → Res D) : Prop where
  run : ∀ (W : WX) (σ : L2.St) (vs : List V) (ds : List D) (G H : Hp) (Q : VK), Ok0 TS G H → Rps X.K G vs ds → PostG (RelE X.K) TS X W σ G H (g ds) Q → wpC X f vs H Q
instance {TS : TabList} {X : Cx} {f : Value} {g : List D → Res D} : CoeFun (CallD TS X f g) fun _ => ∀ (W : WX) (σ : L2.St) (vs : List V) (ds : List D) (G H : Hp) (Q : VK), Ok0 TS G H → Rps X.K G vs ds → PostG (RelE X.K) TS X W σ G H (g ds) Q → wpC X f vs H Q := ⟨CallD.run⟩
structure CallL (TS : TabList) (X : Cx) (f : Value) (g : List D → Res (List D)) : Prop where
  run : ∀ (W : WX) (σ : L2.St) (vs : List V) (ds : List D) (G H : Hp) (Q : VK), Ok0 TS G H → Rps X.K G vs ds → PostG (RelL X.K) TS X W σ G H (g ds) Q → wpC X f vs H Q
instance {TS : TabList} {X : Cx} {f : Value} {g : List D → Res (List D)} : CoeFun (CallL TS X f g) fun _ => ∀ (W : WX) (σ : L2.St) (vs : List V) (ds : List D) (G H : Hp) (Q : VK), Ok0 TS G H → Rps X.K G vs ds → PostG (RelL X.K) TS X W σ G H (g ds) Q → wpC X f vs H Q := ⟨CallL.run⟩
def lF (g : List D → Res (List D)) (fa : En → Res (List D)) : En → Res (List D) := fun ρ => (fa ρ).bind g
section
variable {x : Str} {p : Pos} {id T : String} {gN : List D → Res D} {gL : List D → Res (List D)}
theorem de_callB (h : CallD TS X (.builtin id) gN) (hg : Gl X x) (hm : X.mg x = none) (hv : bootBuiltins x = some (.builtin id)) (ha : DA TS X (a :: es) fr) (hn : x ≠ "__name__" := by decide) (hdb : (x == ("__debug__" : Str)) = false := by decide)
    (he : starEach (a :: es) X.env = (false, eval a X.env) :: starEach es X.env := by rfl) (hpl : (backTo pos (starEach es X.env)).any (·.1) = false := by rfl) : DE TS X (.Call (.Name x p) (a :: es) [] pos) (eN gN fr) := by
  refine ⟨?_⟩
  intro W ρ σ G H Q tk re ok post
  refine wpE_of (pe_callB (cr_wp _) hg hm hv (pa_wp X (a :: es)) hn hdb he hpl) ?_
  exact bindP (wp := fun R => wpA X (a :: es) σ H R) back_E (fun Q' p => ha W ρ σ G H Q' tk re ok p) post fun vs ds G1 H1 _ g1 rs p => h W σ vs ds G1 H1 Q g1.ok rs p
theorem de_callTy (h : CallD TS X (.type T) gN) (hg : Gl X x) (hm : X.mg x = none) (hv : bootBuiltins x = some (.type T)) (ha : DA TS X (a :: es) fr) (hn : x ≠ "__name__" := by decide) (hdb : (x == ("__debug__" : Str)) = false := by decide)
    (he : starEach (a :: es) X.env = (false, eval a X.env) :: starEach es X.env := by rfl) (hpl : (backTo pos (starEach es X.env)).any (·.1) = false := by rfl) : DE TS X (.Call (.Name x p) (a :: es) [] pos) (eN gN fr) := by
  refine ⟨?_⟩
  intro W ρ σ G H Q tk re ok post
  refine wpE_of (pe_callTy (cr_wp _) hg hm hv (pa_wp X (a :: es)) hn hdb he hpl) ?_
  exact bindP (wp := fun R => wpA X (a :: es) σ H R) back_E (fun Q' p => ha W ρ σ G H Q' tk re ok p) post fun vs ds G1 H1 _ g1 rs p => h W σ vs ds G1 H1 Q g1.ok rs p
theorem dl_callB (h : CallL TS X (.builtin id) gL) (hg : Gl X x) (hm : X.mg x = none) (hv : bootBuiltins x = some (.builtin id)) (ha : DA TS X (a :: es) fr) (hn : x ≠ "__name__" := by decide) (hdb : (x == ("__debug__" : Str)) = false := by decide)
    (he : starEach (a :: es) X.env = (false, eval a X.env) :: starEach es X.env := by rfl) (hpl : (backTo pos (starEach es X.env)).any (·.1) = false := by rfl) : DL TS X (.Call (.Name x p) (a :: es) [] pos) (lF gL fr) := by
  refine ⟨?_⟩
  intro W ρ σ G H Q tk re ok post
  refine wpE_of (pe_callB (cr_wp _) hg hm hv (pa_wp X (a :: es)) hn hdb he hpl) ?_
  exact bindP (wp := fun R => wpA X (a :: es) σ H R) back_L (fun Q' p => ha W ρ σ G H Q' tk re ok p) post fun vs ds G1 H1 _ g1 rs p => h W σ vs ds G1 H1 Q g1.ok rs p
theorem dl_callTy (h : CallL TS X (.type T) gL) (hg : Gl X x) (hm : X.mg x = none) (hv : bootBuiltins x = some (.type T)) (ha : DA TS X (a :: es) fr) (hn : x ≠ "__name__" := by decide) (hdb : (x == ("__debug__" : Str)) = false := by decide)
    (he : starEach (a :: es) X.env = (false, eval a X.env) :: starEach es X.env := by rfl) (hpl : (backTo pos (starEach es X.env)).any (·.1) = false := by rfl) : DL TS X (.Call (.Name x p) (a :: es) [] pos) (lF gL fr) := by
  refine ⟨?_⟩
  intro W ρ σ G H Q tk re ok post
  refine wpE_of (pe_callTy (cr_wp _) hg hm hv (pa_wp X (a :: es)) hn hdb he hpl) ?_
  exact bindP (wp := fun R => wpA X (a :: es) σ H R) back_L (fun Q' p => ha W ρ σ G H Q' tk re ok p) post fun vs ds G1 H1 _ g1 rs p => h W σ vs ds G1 H1 Q g1.ok rs p
end
def oneD (g : D → Res D) : List D → Res D
  | [d] => g d
  | _ => .bad
theorem Rps.one_inv {K : PySem.W.Frag} {G : Hp} {vs : List V} {d : D} (r : Rps K G vs [d]) : ∃ v, vs = [v] ∧ Rp K G v d := by
  cases r with
  | cons h r =>
    cases r
    exact ⟨_, rfl, h⟩
theorem cd_len : CallD TS X (.builtin "len") (oneD lenD) := by
  refine ⟨?_⟩
  intro W σ vs ds G H Q ok rs p
  unfold oneD at p
  split at p
  · obtain ⟨v, rfl, r⟩ := rs.one_inv
    unfold lenD at p
    split at p
    · obtain ⟨q, xs, rfl, hq, r⟩ := r.list_inv
      exact wpC_of call_len_seq ⟨q, xs, rfl, .inl (ex_l ok.le hq), by rw [r.len]; exact fin1 ok p (.int _)⟩
    · obtain ⟨q, xs, rfl, hq, r⟩ := r.tup_inv
      exact wpC_of call_len_seq ⟨q, xs, rfl, .inr (ex_t ok.le hq), by rw [r.len]; exact fin1 ok p (.int _)⟩
    · cases r
      obtain ⟨h, p⟩ := okL_post p
      exact wpC_of call_len_str ⟨_, rfl, lim_line h, fin1 ok p (.int _)⟩
    · exact p.elim
  · exact p.elim
theorem cd_int : CallD TS X (.type "int") (oneD intD) := by
  refine ⟨?_⟩
  intro W σ vs ds G H Q ok rs p
  unfold oneD at p
  split at p
  · obtain ⟨v, rfl, r⟩ := rs.one_inv
    unfold intD at p
    split at p
    · cases r
      exact wpC_of call_int1 (.inl ⟨_, rfl, fin1 ok p (.int _)⟩)
    · cases r
      exact wpC_of call_int1 (.inr ⟨_, rfl, fin1 ok p (.int _)⟩)
    · exact p.elim
  · exact p.elim
def itemsD : D → Res (List D)
  | .list ds => .ok ds
  | .tuple ds => .ok ds
  | _ => .bad
def oneL (g : D → Res (List D)) : List D → Res (List D)
  | [d] => g d
  | _ => .bad
theorem cl_list : CallL TS X (.type "list") (oneL itemsD) := by
  refine ⟨?_⟩
  intro W σ vs ds G H Q ok rs p
  unfold oneL at p
  split at p
  · obtain ⟨v, rfl, r⟩ := rs.one_inv
    unfold itemsD at p
    split at p
    · obtain ⟨q, xs, rfl, hq, r⟩ := r.list_inv
      exact wpC_of call_list_of ⟨q, xs, rfl, .inl (ex_l ok.le hq), fun l hl => p _ _ _ (Gr.own (o := .lst xs) ok hl) ⟨l, xs, rfl, hl, fresh_back ok.le hl, upd_same, r⟩⟩
    · obtain ⟨q, xs, rfl, hq, r⟩ := r.tup_inv
      exact wpC_of call_list_of ⟨q, xs, rfl, .inr (ex_t ok.le hq), fun l hl => p _ _ _ (Gr.own (o := .lst xs) ok hl) ⟨l, xs, rfl, hl, fresh_back ok.le hl, upd_same, r⟩⟩
    · exact p.elim
  · exact p.elim
theorem cd_tuple : CallD TS X (.type "tuple") (oneD fun d => (itemsD d).map .tuple) := by
  refine ⟨?_⟩
  intro W σ vs ds G H Q ok rs p
  unfold oneD at p
  split at p
  · obtain ⟨v, rfl, r⟩ := rs.one_inv
    rename_i d
    have p : PostG (RelE X.K) TS X W σ G H ((itemsD d).map .tuple) Q := p
    unfold itemsD at p
    split at p
    · obtain ⟨q, xs, rfl, hq, r⟩ := r.list_inv
      refine wpC_of call_tuple_of ⟨q, xs, rfl, .inl ⟨ex_l ok.le hq, fun l hl => ?_⟩⟩
      have g := Gr.new (o := .tup xs) ok hl
      exact p _ _ _ g (.tup (.inl (.inl upd_same)) (r.mono g.g))
    · obtain ⟨q, xs, rfl, hq, r⟩ := r.tup_inv
      exact wpC_of call_tuple_of ⟨q, xs, rfl, .inr ⟨ex_t ok.le hq, fin1 ok p (.tup hq r)⟩⟩
    · exact p.elim
  · exact p.elim

/-! ### isinstance -/
def tyN : D → String
  | .none => "NoneType"
  | .bool _ => "bool"
  | .int _ => "int"
  | .str _ => "str"
  | .list _ => "list"
  | .tuple _ => "tuple"
  | .dict _ => "dict"
def isiB (T : String) (d : D) : Bool := tyN d == T || (T == "int" && tyN d == "bool")
def isiD (T : String) : D → Res D := fun d => .ok (.bool (isiB T d))
def KitOk (T : String) : Prop := ∀ d : D, kitB (tyN d) T = some (isiB T d)
theorem kit_all {T : String} (h : (["NoneType", "bool", "int", "str", "list", "tuple", "dict"].all fun t => decide (kitB t T = some (t == T || (T == "int" && t == "bool")))) = true) : KitOk T := fun d => by
  have m : tyN d ∈ ["NoneType", "bool", "int", "str", "list", "tuple", "dict"] := by cases d <;> simp [tyN]
  exact of_decide_eq_true (List.all_eq_true.mp h _ m)
theorem kit_str : KitOk "str" := kit_all (by decide +kernel)
theorem kit_int : KitOk "int" := kit_all (by decide +kernel)
theorem kit_bool : KitOk "bool" := kit_all (by decide +kernel)
theorem kit_list : KitOk "list" := kit_all (by decide +kernel)
theorem kit_tuple : KitOk "tuple" := kit_all (by decide +kernel)
theorem kit_dict : KitOk "dict" := kit_all (by decide +kernel)
theorem tyX_of {K : PySem.W.Frag} {H : Hp} {v : V} {d : D} (r : Rp K H v d) : TyX K H v (.type (tyN d)) := by
  cases r with
  | non => exact .base .non
  | bl b => exact .base (.bl b)
  | int i => exact .base (.int i)
  | str x => exact .base (.str x)
  | lst h _ =>
    rcases h with (h | ⟨o, h⟩) | ⟨o, its, n, h, hc, _⟩
    · exact .base (.lst h)
    · exact .base (.frz h)
    · exact .kList h hc
  | tup h _ =>
    rcases h with (h | ⟨o, h⟩) | ⟨o, its, n, h, hc, _⟩
    · exact .base (.tup h)
    · exact .fTuple h
    · exact .kTuple h hc
  | dic h _ => exact .base (.dK h)
theorem de_isi {T : String} {xT : Str} {p p1 : Pos} (kt : KitOk T) (hg : Gl X "isinstance") (hm : X.mg "isinstance" = none) (hgT : Gl X xT) (hmT : X.mg xT = none) (hvT : bootBuiltins xT = some (.type T)) (ha : DE TS X a fa)
    (hnT : xT ≠ "__name__" := by decide) (hdT : (xT == ("__debug__" : Str)) = false := by decide)
    (he : starEach [a, .Name xT p1] X.env = (false, eval a X.env) :: starEach [.Name xT p1] X.env := by rfl) (he2 : starEach [.Name xT p1] X.env = (false, eval (.Name xT p1) X.env) :: starEach [] X.env := by rfl) (hpl : (backTo pos (starEach [.Name xT p1] X.env)).any (·.1) = false := by rfl) :
    DE TS X (.Call (.Name "isinstance" p) [a, .Name xT p1] [] pos) (e1 (isiD T) fa) := by
  refine ⟨?_⟩
  intro W ρ σ G H Q tk re ok post
  refine wpE_of (pe_callB call_isi hg hm (by decide +kernel) (pa_cons (pe_wp X a) (pa_cons (pe_bltn (v := .ty T) hgT hmT hvT rfl hnT hdT) pa_nil he2) he) (by decide) (by decide) he hpl) ?_
  refine bindP (wp := fun R => wpE X a σ H R) back_E (fun Q' p => ha W ρ σ G H Q' tk re ok p) post fun v x G1 H1 _ g1 rx p => ?_
  exact ⟨v, .ty T, _, _, _, rfl, .ty T, tyX_of (rx.mono g1.ok.le), kit_ty (kt x), fin1 g1.ok p (.bl _)⟩

/-! ### own calls -/
end
/-- own lists, their addresses apart -/
inductive RpOs (K : PySem.W.Frag) (G H : Hp) : List Addr → List V → List (List D) → Prop
  | nil : RpOs K G H [] [] []
  | cons {a : Addr} {vs : List V} {ds : List D} {l : List Addr} {us : List V} {dss : List (List D)} : H a = some (.lst vs) → Rps K G vs ds → a ∉ l → RpOs K G H l us dss → RpOs K G H (a :: l) (.ref a :: us) (ds :: dss)
theorem RpOs.keep {K : PySem.W.Frag} {G G' H H' : Hp} (e : Ex G G') : ∀ {l : List Addr} {us : List V} {dss : List (List D)}, (∀ a ∈ l, ∀ vs, H a = some (.lst vs) → H' a = some (.lst vs)) → RpOs K G H l us dss → RpOs K G' H' l us dss
  | _, _, _, _, .nil => .nil
  | _, _, _, h, .cons h1 r n q => .cons (h _ (by simp) _ h1) (r.mono e) n (RpOs.keep e (fun a ha => h a (List.mem_cons_of_mem _ ha)) q)
theorem RpOs.there {K : PySem.W.Frag} {G H : Hp} : ∀ {l : List Addr} {us : List V} {dss : List (List D)}, RpOs K G H l us dss → ∀ a ∈ l, ∃ vs, H a = some (.lst vs)
  | _, _, _, .nil, a, ha => by cases ha
  | _, _, _, .cons h1 _ _ q, a, ha => by
    rcases List.mem_cons.mp ha with rfl | ha
    · exact ⟨_, h1⟩
    · exact q.there a ha
theorem RpOs.count {TS : TabList} {K : PySem.W.Frag} {H : Hp} : ∀ {l : List Addr} {us : List V} {dss : List (List D)} {G : Hp}, RpOs K G H l us dss → Ok0 TS G H → (∀ a ∈ l, G a = none) → ∃ G1, Ex G G1 ∧ Ok0 TS G1 H ∧ Rps K G1 us (dss.map .list) ∧ ∀ a, G1 a ≠ none → G a ≠ none ∨ a ∈ l
  | _, _, _, G, .nil, ok, _ => ⟨G, Ex.refl G, ok, .nil, fun _ h => .inl h⟩
  | _, _, _, G, .cons (a := a) h1 r n q, ok, h0 => by
    obtain ⟨e1, ok1⟩ := Gr.count ok (h0 a (by simp)) h1
    obtain ⟨G1, e2, ok2, rs, bk⟩ := RpOs.count (q.keep e1 fun _ _ _ h => h) ok1 fun b hb => by
      rw [upd_ne fun z => n (by rw [← z]; exact hb)]
      exact h0 b (List.mem_cons_of_mem _ hb)
    refine ⟨G1, e1.trans e2, ok2, .cons (.lst (.inl (.inl (e2 _ _ upd_same))) (r.mono (e1.trans e2))) rs, fun b hb => ?_⟩
    rcases bk b hb with h | h
    · by_cases z : b = a
      · exact .inr (List.mem_cons.mpr (.inl z))
      · rw [upd_ne z] at h
        exact .inl h
    · exact .inr (List.mem_cons_of_mem _ h)
/-- a new tuple of new lists -/
def RelU (K : PySem.W.Frag) : Hp → Hp → Hp → V → List (List D) → Prop := fun H0 G' H' v dss => ∃ p l us, v = .ref p ∧ H0 p = none ∧ G' p = none ∧ H' p = some (.tup us) ∧ p ∉ l ∧ RpOs K G' H' l us dss ∧ ∀ a ∈ l, H0 a = none ∧ G' a = none
theorem back_U {K : PySem.W.Frag} : Back (RelU K) := fun _ _ _ _ _ _ n ⟨p, l, us, e, h, g, hp, np, r, f⟩ => ⟨p, l, us, e, n p h, g, hp, np, r, fun a ha => ⟨n a (f a ha).1, (f a ha).2⟩⟩
theorem RelU.count {TS : TabList} {K : PySem.W.Frag} {H0 G H : Hp} {v : V} {dss : List (List D)} (r : RelU K H0 G H v dss) (ok : Ok0 TS G H) : ∃ G1, Ex G G1 ∧ Ok0 TS G1 H ∧ Rp K G1 v (.tuple (dss.map .list)) ∧ ∀ a, G1 a ≠ none → G a ≠ none ∨ H0 a = none := by
  obtain ⟨p, l, us, rfl, h0, g0, hp, np, r, f⟩ := r
  obtain ⟨e1, ok1⟩ := Gr.count ok g0 hp
  obtain ⟨G1, e2, ok2, rs, bk⟩ := RpOs.count (r.keep e1 fun _ _ _ h => h) ok1 fun b hb => by
    rw [upd_ne fun z => np (by rw [← z]; exact hb)]
    exact (f b hb).2
  refine ⟨G1, e1.trans e2, ok2, .tup (.inl (.inl (e2 _ _ upd_same))) rs, fun b hb => ?_⟩
  rcases bk b hb with h | h
  · by_cases z : b = p
    · exact .inr (by rw [z]; exact h0)
    · rw [upd_ne z] at h
      exact .inl h
  · exact .inr (f b h).1
inductive RV where
  | val (d : D)
  | own (ds : List D)
  | ownU (dss : List (List D))
def RV.d : RV → D
  | .val d => d
  | .own ds => .list ds
  | .ownU dss => .tuple (dss.map .list)
def PostF (TS : TabList) (K : PySem.W.Frag) (mg : Str → Option Value) (G H : Hp) (r : Res RV) (Q : VK) (E : XK) : Prop := match r with
  | .ok (.val d) => ∀ v G' H', Gr TS G H G' H' → Rp K G' v d → Q v H'
  | .ok (.own ds) => ∀ v G' H', Gr TS G H G' H' → RelL K H G' H' v ds → Q v H'
  | .ok (.ownU dss) => ∀ v G' H', Gr TS G H G' H' → RelU K H G' H' v dss → Q v H'
  | .exc c fs => ∀ (C : Addr) (d : Option Addr) (G' H' : Hp), mg c = some (.ref C) → Gr TS G H G' H' → ExcRep K G' H' d fs → E (.ref C) d H'
  | .bad => False
def spD (TS : TabList) (K : PySem.W.Frag) (mg : Str → Option Value) (m : List D → Res RV) : Sp := fun vs H Q E => ∃ G ds, Rps K G vs ds ∧ Ok0 TS G H ∧ PostF TS K mg G H (m ds) Q E
structure Known (TS : TabList) (P : Program) (w : World) (K : PySem.W.Frag) (mg : Str → Option Value) (base : Heap) (k : Nat) (x : Str) (ps : List Str) (m : List D → Res RV) : Prop where
  ex : ∃ f fd, FnOk P w K mg base (L2.CX P w) k f fd ps (spD TS K mg m) ∧ mg x = some (.ref f) ∧ PySem.W.keepIn K (.ref f) = true ∧ Binds K fd ps []
def eCall (m : List D → Res RV) (fr : En → Res (List D)) : En → Res D := fun ρ => (fr ρ).bind fun ds => (m ds).map RV.d
def ownD : RV → Res (List D)
  | .own ds => .ok ds
  | _ => .bad
def lCall (m : List D → Res RV) (fr : En → Res (List D)) : En → Res (List D) := fun ρ => (fr ρ).bind fun ds => (m ds).bind ownD
section
variable {TS : TabList} {X : Cx} {a : Expr} {es : List Expr} {fr : En → Res (List D)} {pos p : Pos} {x : Str} {ps : List Str} {k k' : Nat} {m : List D → Res RV}
theorem de_call (F : Known TS X.prog X.w X.K X.mg X.base k x ps m) (hr : Room k' X.A) (hk : k ≤ k') (hg : Gl X x) (ha : DA TS X (a :: es) fr) (hdb : (x == ("__debug__" : Str)) = false := by decide)
    (he : starEach (a :: es) X.env = (false, eval a X.env) :: starEach es X.env := by rfl) (hpl : (backTo pos (starEach es X.env)).any (·.1) = false := by rfl) : DE TS X (.Call (.Name x p) (a :: es) [] pos) (eCall m fr) := by
  refine ⟨?_⟩
  intro W ρ σ G H Q tk re ok post
  obtain ⟨f, fd, F, hm, hkp, hb⟩ := F.ex
  refine wpE_of (pe_callSD F (hr.mono hk) hg hm hkp hb .nil (passAt tk) (pa_wp X (a :: es)) hdb he hpl) ?_
  refine bindP (wp := fun R => wpA X (a :: es) σ H R) back_E (fun Q' p => ha W ρ σ G H Q' tk re ok p) post fun vs ds G1 H1 _ g1 rs p => ?_
  rw [List.append_nil]
  refine ⟨G1, ds, rs, g1.ok, ?_⟩
  · cases hm : m ds with
    | ok r =>
      rw [hm] at p
      cases r with
      | val d => exact p
      | own ys =>
        rintro v G' H' g ⟨q, ws, rfl, h0, g0, hp, r⟩
        obtain ⟨e1, e2⟩ := Gr.count g.ok g0 hp
        refine p _ _ H' ⟨g.g.trans e1, g.h, fun a q' => ?_, e2⟩ (.lst (.inl (.inl upd_same)) (r.mono e1))
        by_cases z : a = q
        · subst z
          exact .inr h0
        · rw [upd_ne z] at q'
          exact g.nw a q'
      | ownU dss =>
        intro v G' H' g r
        obtain ⟨G1', e1, e2, rp, bk⟩ := r.count g.ok
        exact p _ _ H' ⟨g.g.trans e1, g.h, fun a q' => (bk a q').elim (fun z => g.nw a z) .inr, e2⟩ rp
    | exc c fs =>
      rw [hm] at p
      exact p
    | bad =>
      rw [hm] at p
      exact p
theorem dl_call (F : Known TS X.prog X.w X.K X.mg X.base k x ps m) (hr : Room k' X.A) (hk : k ≤ k') (hg : Gl X x) (ha : DA TS X (a :: es) fr) (hdb : (x == ("__debug__" : Str)) = false := by decide)
    (he : starEach (a :: es) X.env = (false, eval a X.env) :: starEach es X.env := by rfl) (hpl : (backTo pos (starEach es X.env)).any (·.1) = false := by rfl) : DL TS X (.Call (.Name x p) (a :: es) [] pos) (lCall m fr) := by
  refine ⟨?_⟩
  intro W ρ σ G H Q tk re ok post
  obtain ⟨f, fd, F, hm, hkp, hb⟩ := F.ex
  refine wpE_of (pe_callSD F (hr.mono hk) hg hm hkp hb .nil (passAt tk) (pa_wp X (a :: es)) hdb he hpl) ?_
  refine bindP (wp := fun R => wpA X (a :: es) σ H R) back_L (fun Q' p => ha W ρ σ G H Q' tk re ok p) post fun vs ds G1 H1 _ g1 rs p => ?_
  rw [List.append_nil]
  refine ⟨G1, ds, rs, g1.ok, ?_⟩
  cases hm : m ds with
  | ok r =>
    rw [hm] at p
    cases r with
    | val d => exact p.elim
    | own ys => exact p
    | ownU dss => exact p.elim
  | exc c fs =>
    rw [hm] at p
    exact p
  | bad =>
    rw [hm] at p
    exact p
end
end Pyr

set_option Elab.async false
set_option autoImplicit false
set_option linter.all false
set_option maxRecDepth 100000
set_option maxHeartbeats 1000000
namespace Pyr
open PySem PySem.Spec PyProof.Rows L2 Evl

/-! ### slots of a frame -/
inductive Own where
  | lst (ds : List D)
  | set (ds : List D)
  | tup (dss : List (List D))
inductive Sl where
  | emp
  | val (d : D)
  | own (o : Own)
abbrev Frm := List Sl
def Own.d : Own → Option D
  | .lst ds => some (.list ds)
  | .set ds => some (stD ds)
  | .tup dss => some (.tuple (dss.map .list))
def purE (ρ : Frm) : En := ρ.map fun s => match s with
  | .val d => some d
  | .own (.lst ds) => some (loD ds)
  | .own (.set ds) => some (stD ds)
  | .own (.tup _) => none
  | .emp => none
def frzE (ρ : Frm) : En := ρ.map fun s => match s with
  | .val d => some d
  | .own o => o.d
  | .emp => none
/-- an own object, its footprint -/
inductive RpO (T : TabList) (K : PySem.W.Frag) (G H : Hp) : List Addr → V → Own → Prop
  | lst {a : Addr} {vs : List V} {ds : List D} : H a = some (.lst vs) → Rps K G vs ds → RpO T K G H [a] (.ref a) (.lst ds)
  | set {a : Addr} {ds : List D} : StAt T K G H a ds → RpO T K G H [a] (.ref a) (.set ds)
  | tup {p : Addr} {l : List Addr} {us : List V} {dss : List (List D)} : H p = some (.tup us) → p ∉ l → RpOs K G H l us dss → RpO T K G H (p :: l) (.ref p) (.tup dss)
section
variable {TS : TabList} {K : PySem.W.Frag} {G H G' H' : Hp} {fp : List Addr} {v : V} {o : Own}
theorem RpO.keep (r : RpO TS K G H fp v o) (e : Ex G G') (h : ∀ a ∈ fp, ∀ u, H a = some u → isTb u = false → H' a = some u) : RpO TS K G' H' fp v o := by
  cases r with
  | lst h1 r => exact .lst (h _ (by simp) _ h1 rfl) (r.mono e)
  | set h1 => exact .set (h1.mono e fun u hu n => h _ (by simp) u hu n)
  | tup h1 n q => exact .tup (h _ (by simp) _ h1 rfl) n (q.keep e fun a ha vs hv => h a (List.mem_cons_of_mem _ ha) _ hv rfl)
theorem RpO.there (r : RpO TS K G H fp v o) : ∀ a ∈ fp, ∃ u, H a = some u ∧ isTb u = false := by
  cases r with
  | lst h1 r =>
    intro b hb
    rw [List.mem_singleton.mp hb]
    exact ⟨_, h1, rfl⟩
  | set h1 =>
    intro b hb
    rw [List.mem_singleton.mp hb]
    exact h1.there
  | tup h1 n q =>
    intro b hb
    rcases List.mem_cons.mp hb with rfl | hb
    · exact ⟨_, h1, rfl⟩
    · obtain ⟨vs, hv⟩ := q.there b hb
      exact ⟨_, hv, rfl⟩
theorem ExT.at (e : ExT H H') {a : Addr} {u : HO} (h : H a = some u) (n : isTb u = false) : H' a = some u := e.same a u h fun ps z => by
  subst z
  cases n
end
/-- the state of a frame: G_0, H_0 the heaps at the entry -/
structure SI (TS : TabList) (K : PySem.W.Frag) (G_0 H_0 : Hp) (ρ : Frm) (σ : L2.St) (G H : Hp) (fp : Nat → List Addr) : Prop where
  gr : Gr TS G_0 H_0 G H
  len : ρ.length = σ.length
  val : ∀ (i : Nat) (d : D), ρ[i]? = some (Sl.val d) → ∃ v, σ[i]? = some (some v) ∧ Rp K G v d
  own : ∀ (i : Nat) (o : Own), ρ[i]? = some (Sl.own o) → ∃ v, σ[i]? = some (some v) ∧ RpO TS K G H (fp i) v o
  apart : ∀ (i j : Nat) (o u : Own), ρ[i]? = some (Sl.own o) → ρ[j]? = some (Sl.own u) → i ≠ j → ∀ a ∈ fp i, a ∉ fp j
  free : ∀ (i : Nat) (o : Own), ρ[i]? = some (Sl.own o) → ∀ a ∈ fp i, G a = none ∧ H_0 a = none
/-- the heap without tables -/
def noTb (H : Hp) : Hp := fun a => match H a with
  | some (.tbl _) => none
  | o => o
theorem noTb_some {H : Hp} {a : Addr} {u : HO} : noTb H a = some u ↔ H a = some u ∧ isTb u = false := by
  unfold noTb
  cases h : H a with
  | none => simp
  | some o =>
    cases o <;> simp <;> intro e <;> subst e <;> rfl
theorem noTb_ex (H : Hp) : Ex (noTb H) H := fun a u h => (noTb_some.mp h).1
section
variable {TS : TabList} {K : PySem.W.Frag} {G_0 H_0 G H G1 H1 : Hp} {ρ : Frm} {σ : L2.St} {fp : Nat → List Addr}
theorem ok_noTb (k : Ok0 TS G H) : Ok0 TS (noTb H) H := ⟨noTb_ex H, k.tb, fun _ _ h => (noTb_some.mp h).2⟩
theorem ex_noTb (k : Ok0 TS G H) : Ex G (noTb H) := fun a u h => noTb_some.mpr ⟨k.le a u h, k.nt a u h⟩
theorem rpOs_frz {K : PySem.W.Frag} {G H : Hp} (e : Ex G (noTb H)) : ∀ {l : List Addr} {us : List V} {dss : List (List D)}, RpOs K G H l us dss → Rps K (noTb H) us (dss.map .list)
  | _, _, _, .nil => .nil
  | _, _, _, .cons h r _ q => .cons (.lst (.inl (.inl (noTb_some.mpr ⟨h, rfl⟩))) (r.mono e)) (rpOs_frz e q)
theorem SI.pure (s : SI TS K G_0 H_0 ρ σ G H fp) : RpE TS K G H (purE ρ) σ := ⟨by unfold purE; rw [List.length_map, s.len]; exact Nat.le_refl _, fun i d h hlo => (by
  unfold purE at h
  rw [List.getElem?_map] at h
  cases e : ρ[i]? with
  | none =>
    rw [e] at h
    cases h
  | some x =>
    rw [e] at h
    cases x with
    | val d' =>
      cases h
      exact s.val i d e
    | emp => cases h
    | own o =>
      cases o with
      | lst _ =>
        cases h
        cases hlo
      | set _ =>
        cases h
        cases hlo
      | tup _ => cases h), fun i ds h => (by
  unfold purE at h
  rw [List.getElem?_map] at h
  cases e : ρ[i]? with
  | none =>
    rw [e] at h
    cases h
  | some x =>
    rw [e] at h
    cases x with
    | val d' =>
      cases h
      obtain ⟨v, h1, h2⟩ := s.val i _ e
      exact absurd h2.notLo (by simp [isLo])
    | emp => cases h
    | own o =>
      obtain ⟨v, h1, h2⟩ := s.own i o e
      generalize fp i = q at h2
      cases h2 with
      | lst h3 r =>
        cases h
        exact ⟨_, _, h1, h3, r⟩
      | set h3 => cases h
      | tup h3 => cases h), fun i ds h => by
  unfold purE at h
  rw [List.getElem?_map] at h
  cases e : ρ[i]? with
  | none =>
    rw [e] at h
    cases h
  | some x =>
    rw [e] at h
    cases x with
    | val d' =>
      cases h
      obtain ⟨v, h1, h2⟩ := s.val i _ e
      exact absurd h2.notLo (by simp [isLo])
    | emp => cases h
    | own o =>
      obtain ⟨v, h1, h2⟩ := s.own i o e
      generalize fp i = q at h2
      cases h2 with
      | lst h3 r => cases h
      | set h3 =>
        cases h
        exact ⟨_, h1, h3⟩
      | tup h3 => cases h⟩
theorem SI.frz (s : SI TS K G_0 H_0 ρ σ G H fp) : RpE TS K (noTb H) H (frzE ρ) σ := ⟨by unfold frzE; rw [List.length_map, s.len]; exact Nat.le_refl _, fun i d h hlo => (by
  unfold frzE at h
  rw [List.getElem?_map] at h
  cases e : ρ[i]? with
  | none =>
    rw [e] at h
    cases h
  | some x =>
    rw [e] at h
    cases x with
    | val d' =>
      cases h
      obtain ⟨v, h1, h2⟩ := s.val i d e
      exact ⟨v, h1, h2.mono (ex_noTb s.gr.ok)⟩
    | emp => cases h
    | own o =>
      obtain ⟨v, h1, h2⟩ := s.own i o e
      generalize fp i = q at h2
      cases h2 with
      | lst h3 r =>
        cases h
        exact ⟨_, h1, .lst (.inl (.inl (noTb_some.mpr ⟨h3, rfl⟩))) (r.mono (ex_noTb s.gr.ok))⟩
      | set h3 =>
        cases h
        cases hlo
      | tup h3 n q =>
        cases h
        exact ⟨_, h1, .tup (.inl (.inl (noTb_some.mpr ⟨h3, rfl⟩))) (rpOs_frz (ex_noTb s.gr.ok) q)⟩), fun i ds h => (by
  unfold frzE at h
  rw [List.getElem?_map] at h
  cases e : ρ[i]? with
  | none =>
    rw [e] at h
    cases h
  | some x =>
    rw [e] at h
    cases x with
    | val d' =>
      cases h
      obtain ⟨v, h1, h2⟩ := s.val i _ e
      exact absurd h2.notLo (by simp [isLo])
    | emp => cases h
    | own o =>
      cases o <;> cases h), fun i ds h => by
  unfold frzE at h
  rw [List.getElem?_map] at h
  cases e : ρ[i]? with
  | none =>
    rw [e] at h
    cases h
  | some x =>
    rw [e] at h
    cases x with
    | val d' =>
      cases h
      obtain ⟨v, h1, h2⟩ := s.val i _ e
      exact absurd h2.notLo (by simp [isLo])
    | emp => cases h
    | own o =>
      obtain ⟨v, h1, h2⟩ := s.own i o e
      generalize fp i = q at h2
      cases h2 with
      | lst h3 r => cases h
      | set h3 =>
        cases h
        exact ⟨_, h1, h3.mono (ex_noTb s.gr.ok) fun _ hu _ => hu⟩
      | tup h3 => cases h⟩
/-- after an expression -/
theorem SI.grow (s : SI TS K G_0 H_0 ρ σ G H fp) (g : Gr TS G H G1 H1) : SI TS K G_0 H_0 ρ σ G1 H1 fp := by
  refine ⟨s.gr.trans g, s.len, fun i d h => ?_, fun i o h => ?_, s.apart, fun i o h a ha => ?_⟩
  · obtain ⟨v, h1, h2⟩ := s.val i d h
    exact ⟨v, h1, h2.mono g.g⟩
  · obtain ⟨v, h1, h2⟩ := s.own i o h
    exact ⟨v, h1, h2.keep g.g fun a _ u hu n => g.h.at hu n⟩
  · obtain ⟨v, h1, h2⟩ := s.own i o h
    obtain ⟨u, hu, _⟩ := h2.there a ha
    obtain ⟨z1, z2⟩ := s.free i o h a ha
    refine ⟨?_, z2⟩
    cases q : G1 a with
    | none => rfl
    | some w =>
      rcases g.nw a (by rw [q]; simp) with c | c
      · exact absurd z1 c
      · rw [hu] at c
        cases c
theorem set_at {α : Type} {l : List α} {i j : Nat} {x y : α} (h : (l.set i x)[j]? = some y) : (i = j ∧ x = y ∧ i < l.length) ∨ (i ≠ j ∧ l[j]? = some y) := by
  by_cases e : i = j
  · subst e
    by_cases hl : i < l.length
    · rw [List.getElem?_set_self hl] at h
      exact .inl ⟨rfl, Option.some.inj h, hl⟩
    · rw [List.getElem?_eq_none (by simpa using hl)] at h
      cases h
  · rw [List.getElem?_set_ne e] at h
    exact .inr ⟨e, h⟩
theorem SI.setVal {i : Nat} {d : D} {v : V} (s : SI TS K G_0 H_0 ρ σ G H fp) (r : Rp K G v d) : SI TS K G_0 H_0 (ρ.set i (.val d)) (σ.set i (some v)) G H fp := by
  refine ⟨s.gr, by simpa using s.len, fun j d' h => ?_, fun j o h => ?_, fun j l o u h1 h2 => ?_, fun j o h => ?_⟩
  · rcases set_at h with ⟨rfl, e, hl⟩ | ⟨ne, h⟩
    · cases e
      exact ⟨v, List.getElem?_set_self (by rw [← s.len]; exact hl), r⟩
    · rw [List.getElem?_set_ne ne]
      exact s.val j d' h
  · rcases set_at h with ⟨rfl, e, hl⟩ | ⟨ne, h⟩
    · cases e
    · rw [List.getElem?_set_ne ne]
      exact s.own j o h
  · rcases set_at h1 with ⟨_, e, _⟩ | ⟨_, h1⟩
    · cases e
    · rcases set_at h2 with ⟨_, e, _⟩ | ⟨_, h2⟩
      · cases e
      · exact s.apart j l o u h1 h2
  · rcases set_at h with ⟨_, e, _⟩ | ⟨_, h⟩
    · cases e
    · exact s.free j o h
def setFp (fp : Nat → List Addr) (i : Nat) (l : List Addr) : Nat → List Addr := fun j => if j = i then l else fp j
theorem setFp_same {i : Nat} {l : List Addr} : setFp fp i l i = l := if_pos rfl
theorem setFp_ne {i j : Nat} {l : List Addr} (h : i ≠ j) : setFp fp i l j = fp j := if_neg (Ne.symm h)
/-- a new own object -/
theorem SI.setOwn {i : Nat} {o : Own} {v : V} {l : List Addr} (s : SI TS K G_0 H_0 ρ σ G H fp) (r : RpO TS K G H l v o) (hn : ∀ a ∈ l, G a = none ∧ H_0 a = none) (hf : ∀ (j : Nat) (u : Own), ρ[j]? = some (Sl.own u) → j ≠ i → ∀ a ∈ l, a ∉ fp j) :
    SI TS K G_0 H_0 (ρ.set i (.own o)) (σ.set i (some v)) G H (setFp fp i l) := by
  refine ⟨s.gr, by simpa using s.len, fun j d' h => ?_, fun j u h => ?_, fun j m u w h1 h2 hjm => ?_, fun j u h => ?_⟩
  · rcases set_at h with ⟨rfl, e, hl⟩ | ⟨ne, h⟩
    · cases e
    · rw [List.getElem?_set_ne ne]
      exact s.val j d' h
  · rcases set_at h with ⟨rfl, e, hl⟩ | ⟨ne, h⟩
    · cases e
      exact ⟨v, List.getElem?_set_self (by rw [← s.len]; exact hl), by rw [setFp_same]; exact r⟩
    · rw [List.getElem?_set_ne ne, setFp_ne ne]
      exact s.own j u h
  · rcases set_at h1 with ⟨rfl, e, _⟩ | ⟨n1, h1⟩
    · rcases set_at h2 with ⟨rfl, e, _⟩ | ⟨n2, h2⟩
      · exact absurd rfl hjm
      · rw [setFp_same, setFp_ne n2]
        exact hf m w h2 (Ne.symm n2)
    · rcases set_at h2 with ⟨rfl, e, _⟩ | ⟨n2, h2⟩
      · rw [setFp_same, setFp_ne n1]
        exact fun a ha hb => hf j u h1 (Ne.symm n1) a hb ha
      · rw [setFp_ne n1, setFp_ne n2]
        exact s.apart j m u w h1 h2 hjm
  · rcases set_at h with ⟨rfl, e, _⟩ | ⟨ne, h⟩
    · rw [setFp_same]
      exact hn
    · rw [setFp_ne ne]
      exact s.free j u h
/-- an own list changed in place -/
theorem SI.change {i : Nat} {ds ds' : List D} {a : Addr} {vs' : List V} (s : SI TS K G_0 H_0 ρ σ G H fp) (hi : ρ[i]? = some (Sl.own (.lst ds))) (ha : σ[i]? = some (some (.ref a))) (r : Rps K G vs' ds') :
    SI TS K G_0 H_0 (ρ.set i (.own (.lst ds'))) σ G (upd H a (.lst vs')) fp := by
  have hil : i < ρ.length := (List.getElem?_eq_some_iff.mp hi).1
  obtain ⟨v, hv, ro⟩ := s.own i _ hi
  rw [ha] at hv
  cases hv
  have hfp : fp i = [a] := by
    generalize hq : fp i = q at ro
    cases ro
    rfl
  have ham : a ∈ fp i := by rw [hfp]; simp
  obtain ⟨u, hu, hub⟩ := ro.there a ham
  obtain ⟨z1, z2⟩ := s.free i _ hi a ham
  have hs : σ.set i (some (.ref a)) = σ := by
    have hl : i < σ.length := by rw [← s.len]; exact hil
    have : σ[i] = some (.ref a) := by
      rw [List.getElem?_eq_getElem hl] at ha
      exact Option.some.inj ha
    rw [← this]
    exact List.set_getElem_self hl
  have keepO : ∀ b w, b ≠ a → H b = some w → upd H a (.lst vs') b = some w := fun b w n h => by rw [upd_ne n]; exact h
  have gr : Gr TS G_0 H_0 G (upd H a (.lst vs')) := by
    refine ⟨s.gr.g, ⟨fun b w h n => keepO b w (ne_of_none h z2) (s.gr.h.same b w h n), fun b h => s.gr.h.old b (upd_none h)⟩, s.gr.nw, ⟨fun b w h => keepO b w (ne_of_none h z1) (s.gr.ok.le b w h), fun P hP => ?_, s.gr.ok.nt⟩⟩
    obtain ⟨ps, h1, h2⟩ := s.gr.ok.tb P hP
    refine ⟨ps, keepO P _ (fun e => ?_) h1, h2⟩
    rw [e, hu] at h1
    cases h1
    cases hub
  refine ⟨gr, by simpa using s.len, fun j d' h => ?_, fun j w h => ?_, fun j m w1 w2 h1 h2 hjm => ?_, fun j w h => ?_⟩
  · rcases set_at h with ⟨rfl, e, hl⟩ | ⟨ne, h⟩
    · cases e
    · exact s.val j d' h
  · rcases set_at h with ⟨rfl, e, hl⟩ | ⟨ne, h⟩
    · cases e
      exact ⟨_, ha, by rw [hfp]; exact .lst upd_same r⟩
    · obtain ⟨v2, h1, h2⟩ := s.own j w h
      refine ⟨v2, h1, h2.keep (Ex.refl G) fun b hb w2 hw _ => keepO b w2 (fun e => ?_) hw⟩
      subst e
      exact s.apart i j _ _ hi h ne _ ham hb
  · have old : ∀ {k : Nat} {w : Own}, (ρ.set i (.own (.lst ds')))[k]? = some (Sl.own w) → ∃ w', ρ[k]? = some (Sl.own w') := fun {k w} h => by
      rcases set_at h with ⟨rfl, e, _⟩ | ⟨_, h⟩
      · exact ⟨_, hi⟩
      · exact ⟨w, h⟩
    obtain ⟨w1', h1'⟩ := old h1
    obtain ⟨w2', h2'⟩ := old h2
    exact s.apart j m w1' w2' h1' h2' hjm
  · rcases set_at h with ⟨rfl, e, _⟩ | ⟨_, h⟩
    · exact s.free i _ hi
    · exact s.free j w h
/-- an own list becomes data -/
theorem SI.freeze {i : Nat} {ds : List D} (s : SI TS K G_0 H_0 ρ σ G H fp) (hi : ρ[i]? = some (Sl.own (.lst ds))) : ∃ G1, Ex G G1 ∧ SI TS K G_0 H_0 (ρ.set i (.val (.list ds))) σ G1 H fp := by
  have hil : i < ρ.length := (List.getElem?_eq_some_iff.mp hi).1
  obtain ⟨v, hv, ro⟩ := s.own i _ hi
  generalize hq : fp i = q at ro
  cases ro with
  | @lst a vs _ h1 r =>
    have ham : a ∈ fp i := by rw [hq]; simp
    obtain ⟨z1, z2⟩ := s.free i _ hi a ham
    obtain ⟨e1, e2⟩ := Gr.count s.gr.ok z1 h1
    have s2 : SI TS K G_0 H_0 (ρ.set i (.val (.list ds))) (σ.set i (some (.ref a))) (upd G a (.lst vs)) H fp := by
      refine ⟨⟨s.gr.g.trans e1, s.gr.h, fun b h => ?_, e2⟩, by simpa using s.len, fun j d' h => ?_, fun j w h => ?_, fun j m w1 w2 h1 h2 hjm => ?_, fun j w h b hb => ?_⟩
      · by_cases z : b = a
        · subst z
          exact .inr z2
        · rw [upd_ne z] at h
          exact s.gr.nw b h
      · rcases set_at h with ⟨rfl, e, hl⟩ | ⟨ne, h⟩
        · cases e
          exact ⟨_, List.getElem?_set_self (by rw [← s.len]; exact hl), .lst (.inl (.inl upd_same)) (r.mono e1)⟩
        · obtain ⟨v2, q1, q2⟩ := s.val j d' h
          rw [List.getElem?_set_ne ne]
          exact ⟨v2, q1, q2.mono e1⟩
      · rcases set_at h with ⟨rfl, e, hl⟩ | ⟨ne, h⟩
        · cases e
        · obtain ⟨v2, q1, q2⟩ := s.own j w h
          rw [List.getElem?_set_ne ne]
          exact ⟨v2, q1, q2.keep e1 fun _ _ _ h _ => h⟩
      · rcases set_at h1 with ⟨_, e, _⟩ | ⟨_, h1⟩
        · cases e
        · rcases set_at h2 with ⟨_, e, _⟩ | ⟨_, h2⟩
          · cases e
          · exact s.apart j m w1 w2 h1 h2 hjm
      · rcases set_at h with ⟨_, e, _⟩ | ⟨ne, h⟩
        · cases e
        · obtain ⟨q1, q2⟩ := s.free j w h b hb
          refine ⟨?_, q2⟩
          rw [upd_ne fun e => ?_]
          · exact q1
          · subst e
            exact s.apart i j _ _ hi h ne _ ham hb
    have hs : σ.set i (some (.ref a)) = σ := by
      have hl : i < σ.length := by rw [← s.len]; exact hil
      have : σ[i] = some (.ref a) := by
        rw [List.getElem?_eq_getElem hl] at hv
        exact Option.some.inj hv
      rw [← this]
      exact List.set_getElem_self hl
    rw [hs] at s2
    exact ⟨_, e1, s2⟩
end
end Pyr

set_option Elab.async false
set_option autoImplicit false
set_option linter.all false
set_option maxRecDepth 100000
set_option maxHeartbeats 1000000
namespace Pyr
open PySem PySem.Spec PyProof.Rows L2 Evl

inductive Fl where
  | next (ρ : Frm)
  | ret (r : RV)
  | brk (ρ : Frm)
  | cont (ρ : Frm)
def PostS (TS : TabList) (X : Cx) (W : WX) (G_0 H_0 Gs : Hp) (D : Ends) : Res Fl → Prop
  | .ok (.next ρ) => ∀ (σ : L2.St) (G H : Hp) (fp : Nat → List Addr), Ex Gs G → SI TS X.K G_0 H_0 ρ σ G H fp → D.nx σ H
  | .ok (.brk ρ) => ∀ (σ : L2.St) (G H : Hp) (fp : Nat → List Addr), Ex Gs G → SI TS X.K G_0 H_0 ρ σ G H fp → D.bk σ H
  | .ok (.cont ρ) => ∀ (σ : L2.St) (G H : Hp) (fp : Nat → List Addr), Ex Gs G → SI TS X.K G_0 H_0 ρ σ G H fp → D.ct σ H
  | .ok (.ret (.val d)) => ∀ (v : V) (G H : Hp), Gr TS G_0 H_0 G H → Rp X.K G v d → D.rt v H
  | .ok (.ret (.own ds)) => ∀ (v : V) (G H : Hp), Gr TS G_0 H_0 G H → RelL X.K H_0 G H v ds → D.rt v H
  | .ok (.ret (.ownU dss)) => ∀ (v : V) (G H : Hp), Gr TS G_0 H_0 G H → RelU X.K H_0 G H v dss → D.rt v H
  | .exc c fs => ∀ (C : Addr) (d : Option Addr) (σ : L2.St) (G H : Hp), X.mg c = some (.ref C) → Gr TS G_0 H_0 G H → ExcRep X.K G H d fs → W (.ref C) d σ H
  | .bad => False
theorem PostS.shift {TS : TabList} {X : Cx} {W : WX} {G_0 H_0 G G' : Hp} {D : Ends} {r : Res Fl} (e : Ex G G') (p : PostS TS X W G_0 H_0 G D r) : PostS TS X W G_0 H_0 G' D r := by
  cases r with
  | ok fl =>
    cases fl with
    | next ρ => exact fun σ G1 H fp e1 s => p σ G1 H fp (e.trans e1) s
    | brk ρ => exact fun σ G1 H fp e1 s => p σ G1 H fp (e.trans e1) s
    | cont ρ => exact fun σ G1 H fp e1 s => p σ G1 H fp (e.trans e1) s
    | ret r =>
      cases r with
      | val d => exact p
      | own ds => exact p
      | ownU dss => exact p
  | exc c fs => exact p
  | bad => exact p
def wpSt (X : Cx) (st : Stmt) : TS := fun D σ H => ∀ (pins : List (Addr × Obj)) (s : Shared), Inv X pins σ H s → wpAny (model X.prog X.w) X.A (exec st X.env) (SP X pins D) X.xe s
theorem ps_wp (X : Cx) (st : Stmt) : PS X st (wpSt X st) := ⟨fun pins s _ _ _ I h => h pins s I⟩
theorem wpSt_of {X : Cx} {st : Stmt} {t : TS} {D : Ends} {σ : L2.St} {H : Hp} (h : PS X st t) (q : t D σ H) : wpSt X st D σ H := fun pins s I => h.run pins s σ H D I q
def wpSs (X : Cx) (st : List Stmt) : TS := fun D σ H => ∀ (pins : List (Addr × Obj)) (s : Shared), Inv X pins σ H s → wpAny (model X.prog X.w) X.A (execs st X.env) (SP X pins D) X.xe s
theorem pss_wp (X : Cx) (st : List Stmt) : PSs X st (wpSs X st) := ⟨fun pins s _ _ _ I h => h pins s I⟩
theorem wpSs_of {X : Cx} {st : List Stmt} {t : TS} {D : Ends} {σ : L2.St} {H : Hp} (h : PSs X st t) (q : t D σ H) : wpSs X st D σ H := fun pins s I => h.run pins s σ H D I q
structure DSt (TS : TabList) (X : Cx) (st : Stmt) (F : Frm → Res Fl) : Prop where
  run : ∀ (W : WX) (ρ : Frm) (σ : L2.St) (G_0 H_0 G H : Hp) (fp : Nat → List Addr) (D : Ends), Takes X W → SI TS X.K G_0 H_0 ρ σ G H fp → PostS TS X W G_0 H_0 G D (F ρ) → wpSt X st D σ H
instance {TS : TabList} {X : Cx} {st : Stmt} {F : Frm → Res Fl} : CoeFun (DSt TS X st F) fun _ => ∀ (W : WX) (ρ : Frm) (σ : L2.St) (G_0 H_0 G H : Hp) (fp : Nat → List Addr) (D : Ends), Takes X W → SI TS X.K G_0 H_0 ρ σ G H fp → PostS TS X W G_0 H_0 G D (F ρ) → wpSt X st D σ H := ⟨DSt.run⟩
structure DSs (TS : TabList) (X : Cx) (st : List Stmt) (F : Frm → Res Fl) : Prop where
  run : ∀ (W : WX) (ρ : Frm) (σ : L2.St) (G_0 H_0 G H : Hp) (fp : Nat → List Addr) (D : Ends), Takes X W → SI TS X.K G_0 H_0 ρ σ G H fp → PostS TS X W G_0 H_0 G D (F ρ) → wpSs X st D σ H
instance {TS : TabList} {X : Cx} {st : List Stmt} {F : Frm → Res Fl} : CoeFun (DSs TS X st F) fun _ => ∀ (W : WX) (ρ : Frm) (σ : L2.St) (G_0 H_0 G H : Hp) (fp : Nat → List Addr) (D : Ends), Takes X W → SI TS X.K G_0 H_0 ρ σ G H fp → PostS TS X W G_0 H_0 G D (F ρ) → wpSs X st D σ H := ⟨DSs.run⟩

/-! ### the functions of statements -/
def sNext : Frm → Res Fl := fun ρ => .ok (.next ρ)
def sSeq (F1 F2 : Frm → Res Fl) : Frm → Res Fl := fun ρ => (F1 ρ).bind fun fl => match fl with
  | .next ρ' => F2 ρ'
  | fl => .ok fl
/-- exceptions with fields are not told of where own objects were read -/
def bare {α : Type} : Res α → Res α
  | .exc _ (_ :: _) => .bad
  | r => r
def evP (fe : En → Res D) (ρ : Frm) : Res D := match fe (purE ρ) with
  | .bad => (bare (fe (frzE ρ))).bind fun d => if flat0 d then .ok d else .bad
  | r => r
def evL (fe : En → Res (List D)) (ρ : Frm) : Res (List D) := match fe (purE ρ) with
  | .bad => (bare (fe (frzE ρ))).bind fun ds => if ds.all flat0 then .ok ds else .bad
  | r => r
def evT (ft : En → Res Bool) (ρ : Frm) : Res Bool := bare (ft (frzE ρ))
def sIf (ft : En → Res Bool) (F1 F2 : Frm → Res Fl) : Frm → Res Fl := fun ρ => (evT ft ρ).bind fun b => if b then F1 ρ else F2 ρ
def sSet (i : Nat) (fe : En → Res D) : Frm → Res Fl := fun ρ => (evP fe ρ).bind fun d => .ok (.next (ρ.set i (.val d)))
def sSetL (i : Nat) (fe : En → Res (List D)) : Frm → Res Fl := fun ρ => (evL fe ρ).bind fun ds => .ok (.next (ρ.set i (.own (.lst ds))))
def sRet (fe : En → Res D) : Frm → Res Fl := fun ρ => (evP fe ρ).bind fun d => .ok (.ret (.val d))
def sRetL (fe : En → Res (List D)) : Frm → Res Fl := fun ρ => (evL fe ρ).bind fun ds => .ok (.ret (.own ds))
def sRetN : Frm → Res Fl := fun _ => .ok (.ret (.val .none))
def sRetO (i : Nat) : Frm → Res Fl := fun ρ => match ρ[i]? with
  | some (Sl.own (.lst ds)) => .ok (.ret (.own ds))
  | _ => .bad
def sDrop (fe : En → Res D) : Frm → Res Fl := fun ρ => (evP fe ρ).bind fun _ => .ok (.next ρ)
def sApp (i : Nat) (fe : En → Res D) : Frm → Res Fl := fun ρ => match ρ[i]? with
  | some (Sl.own (.lst ds)) => (evP fe ρ).bind fun d => okL (ds.length + 1) (.ok (.next (ρ.set i (.own (.lst (ds ++ [d]))))))
  | _ => .bad
def sPut (i : Nat) (fj fe : En → Res D) : Frm → Res Fl := fun ρ => match ρ[i]? with
  | some (Sl.own (.lst ds)) => (evP fe ρ).bind fun d => (evP fj ρ).bind fun j => match j with
    | .int k => match ixN ds.length k with
      | some n => .ok (.next (ρ.set i (.own (.lst (ds.set n d)))))
      | none => .bad
    | _ => .bad
  | _ => .bad
def sAug (i : Nat) (fe : En → Res D) : Frm → Res Fl := fun ρ => match ρ[i]? with
  | some (Sl.val (.int a)) => (evP fe ρ).bind fun d => match d with
    | .int b => .ok (.next (ρ.set i (.val (.int (a + b)))))
    | _ => .bad
  | _ => .bad
def sFrz (i : Nat) (F : Frm → Res Fl) : Frm → Res Fl := fun ρ => match ρ[i]? with
  | some (Sl.own (.lst ds)) => F (ρ.set i (.val (.list ds)))
  | _ => F ρ

section
variable {TS : TabList} {X : Cx} {W : WX} {a e c : Expr} {fe fj : En → Res D} {fl : En → Res (List D)} {ft : En → Res Bool} {F F1 F2 : Frm → Res Fl} {st : Stmt} {rest b1 b2 : List Stmt} {pos : Pos}
variable {G_0 H_0 G H G1 H1 : Hp} {ρ : Frm} {σ : L2.St} {fp : Nat → List Addr} {D : Ends}
theorem gr_noTb (k : Ok0 TS G H) (g : Gr TS (noTb H) H G1 H1) : Gr TS G H G H1 := ⟨Ex.refl G, g.h, fun _ h => .inl h, ⟨((ex_noTb k).trans g.g).trans g.ok.le, g.ok.tb, k.nt⟩⟩
theorem flat_any {K : PySem.W.Frag} {v : V} {d : Pyr.D} (h : flat0 d = true) (r : Rp K G v d) : Rp K G1 v d := by
  cases r with
  | non => exact .non
  | bl b => exact .bl b
  | int i => exact .int i
  | str x => exact .str x
  | _ => cases h
theorem flats_any {K : PySem.W.Frag} : ∀ {vs : List V} {ds : List Pyr.D}, ds.all flat0 = true → Rps K G vs ds → Rps K G1 vs ds
  | _, _, _, .nil => .nil
  | _, _, h, .cons r rs => by
    rw [List.all_cons, Bool.and_eq_true] at h
    exact .cons (flat_any h.1 r) (flats_any h.2 rs)
/-- what is wanted of an exception that an expression of this frame lets out -/
theorem postX_of {c : Str} {fs : List (Str × Pyr.D)} (s : SI TS X.K G_0 H_0 ρ σ G H fp) (p : PostS TS X W G_0 H_0 G D (.exc c fs)) : PostX TS X W σ G H c fs :=
  fun C d G' H' m g r => p C d σ G' H' m (s.gr.trans g) r
theorem postX_frz {c : Str} {fs : List (Str × Pyr.D)} (s : SI TS X.K G_0 H_0 ρ σ G H fp) (p : PostS TS X W G_0 H_0 G D (.exc c fs)) (hf : fs = []) : PostX TS X W σ (noTb H) H c fs := by
  subst hf
  exact fun C d G' H' m g r => p C d σ G H' m (s.gr.trans (gr_noTb s.gr.ok g)) r
theorem evP_run {k : Pyr.D → Res Fl} {R : VK} (he : DE TS X e fe) (tk : Takes X W) (s : SI TS X.K G_0 H_0 ρ σ G H fp) (p : PostS TS X W G_0 H_0 G D ((evP fe ρ).bind k))
    (next : ∀ (v : V) (d : Pyr.D) (G1 H1 : Hp), Gr TS G H G1 H1 → Rp X.K G1 v d → PostS TS X W G_0 H_0 G D (k d) → R v H1) : wpE X e σ H R := by
  cases h1 : fe (purE ρ) with
  | ok d =>
    have e1 : evP fe ρ = .ok d := by unfold evP; rw [h1]
    rw [e1] at p
    refine he W (purE ρ) σ G H R tk s.pure s.gr.ok ?_
    rw [h1]
    exact fun v G1 H1 g r => next v d G1 H1 g r p
  | exc c fs =>
    have e1 : evP fe ρ = .exc c fs := by unfold evP; rw [h1]
    rw [e1] at p
    refine he W (purE ρ) σ G H R tk s.pure s.gr.ok ?_
    rw [h1]
    exact postX_of s p
  | bad =>
    have e1 : evP fe ρ = (bare (fe (frzE ρ))).bind fun d => if flat0 d then .ok d else .bad := by unfold evP; rw [h1]
    rw [e1] at p
    refine he W (frzE ρ) σ (noTb H) H R tk s.frz (ok_noTb s.gr.ok) ?_
    cases h2 : fe (frzE ρ) with
    | ok d =>
      rw [h2] at p
      have p : PostS TS X W G_0 H_0 G D ((if flat0 d then Res.ok d else .bad).bind k) := p
      by_cases hf : flat0 d = true
      · rw [if_pos hf] at p
        exact fun v G1 H1 g r => next v d G H1 (gr_noTb s.gr.ok g) (flat_any hf r) p
      · rw [if_neg hf] at p
        exact p.elim
    | exc c fs =>
      rw [h2] at p
      cases fs with
      | nil => exact postX_frz s p rfl
      | cons _ _ => exact p.elim
    | bad =>
      rw [h2] at p
      exact p.elim
theorem evL_gen {wp : L2.St → Hp → VK → Prop} {k : List Pyr.D → Res Fl} {R : VK} (he : ∀ (W : WX) (ρ : En) (σ : L2.St) (G H : Hp) (Q : VK), Takes X W → RpE TS X.K G H ρ σ → Ok0 TS G H → PostG (RelL X.K) TS X W σ G H (fl ρ) Q → wp σ H Q) (tk : Takes X W) (s : SI TS X.K G_0 H_0 ρ σ G H fp) (p : PostS TS X W G_0 H_0 G D ((evL fl ρ).bind k))
    (next : ∀ (v : V) (ds : List Pyr.D) (G1 H1 : Hp), Gr TS G H G1 H1 → RelL X.K H G1 H1 v ds → PostS TS X W G_0 H_0 G D (k ds) → R v H1) : wp σ H R := by
  cases h1 : fl (purE ρ) with
  | ok d =>
    have e1 : evL fl ρ = .ok d := by unfold evL; rw [h1]
    rw [e1] at p
    refine he W (purE ρ) σ G H R tk s.pure s.gr.ok ?_
    rw [h1]
    exact fun v G1 H1 g r => next v d G1 H1 g r p
  | exc c fs =>
    have e1 : evL fl ρ = .exc c fs := by unfold evL; rw [h1]
    rw [e1] at p
    refine he W (purE ρ) σ G H R tk s.pure s.gr.ok ?_
    rw [h1]
    exact postX_of s p
  | bad =>
    have e1 : evL fl ρ = (bare (fl (frzE ρ))).bind fun ds => if ds.all flat0 then .ok ds else .bad := by unfold evL; rw [h1]
    rw [e1] at p
    refine he W (frzE ρ) σ (noTb H) H R tk s.frz (ok_noTb s.gr.ok) ?_
    cases h2 : fl (frzE ρ) with
    | ok ds =>
      rw [h2] at p
      have p : PostS TS X W G_0 H_0 G D ((if ds.all flat0 then Res.ok ds else .bad).bind k) := p
      by_cases hf : ds.all flat0 = true
      · rw [if_pos hf] at p
        rintro v G1 H1 g ⟨q, vs, rfl, h0, g0, hp, r⟩
        exact next _ ds G H1 (gr_noTb s.gr.ok g) ⟨q, vs, rfl, h0, fresh_back s.gr.ok.le h0, hp, flats_any hf r⟩ p
      · rw [if_neg hf] at p
        exact p.elim
    | exc c fs =>
      rw [h2] at p
      cases fs with
      | nil => exact postX_frz s p rfl
      | cons _ _ => exact p.elim
    | bad =>
      rw [h2] at p
      exact p.elim
theorem evL_run {k : List Pyr.D → Res Fl} {R : VK} (he : DL TS X e fl) (tk : Takes X W) (s : SI TS X.K G_0 H_0 ρ σ G H fp) (p : PostS TS X W G_0 H_0 G D ((evL fl ρ).bind k))
    (next : ∀ (v : V) (ds : List Pyr.D) (G1 H1 : Hp), Gr TS G H G1 H1 → RelL X.K H G1 H1 v ds → PostS TS X W G_0 H_0 G D (k ds) → R v H1) : wpE X e σ H R := evL_gen he tk s p next
theorem evT_run {k : Bool → Res Fl} {R : Bool → Hp → Prop} (he : DT TS X e ft) (tk : Takes X W) (s : SI TS X.K G_0 H_0 ρ σ G H fp) (p : PostS TS X W G_0 H_0 G D ((evT ft ρ).bind k))
    (next : ∀ (b : Bool) (H1 : Hp), Gr TS G H G H1 → PostS TS X W G_0 H_0 G D (k b) → R b H1) : wpT X e σ H R := by
  unfold evT at p
  refine he W (frzE ρ) σ (noTb H) H R tk s.frz (ok_noTb s.gr.ok) ?_
  cases h2 : ft (frzE ρ) with
  | ok b =>
    rw [h2] at p
    intro v G1 H1 g r
    subst r
    exact next v H1 (gr_noTb s.gr.ok g) p
  | exc c fs =>
    rw [h2] at p
    cases fs with
    | nil => exact postX_frz s p rfl
    | cons _ _ => exact p.elim
  | bad =>
    rw [h2] at p
    exact p.elim

theorem dss_nil : DSs TS X [] sNext := .mk fun W ρ σ G_0 H_0 G H fp D tk s p => wpSs_of pss_nil (p σ G H fp (Ex.refl G) s)
theorem dss_cons (h1 : DSt TS X st F1) (h2 : DSs TS X rest F2) : DSs TS X (st :: rest) (sSeq F1 F2) := by
  refine ⟨?_⟩
  intro W ρ σ G_0 H_0 G H fp D tk s p
  refine wpSs_of (pss_cons (ps_wp X st) (pss_wp X rest)) ?_
  refine h1 W ρ σ G_0 H_0 G H fp { D with nx := wpSs X rest D } tk s ?_
  unfold sSeq at p
  cases hf : F1 ρ with
  | ok fl =>
    rw [hf] at p
    cases fl with
    | next ρ' => exact fun σ' G' H' fp' e s' => h2 W ρ' σ' G_0 H_0 G' H' fp' D tk s' (p.shift e)
    | ret r =>
      cases r with
      | val d => exact p
      | own ds => exact p
      | ownU dss => exact p
    | brk ρ' => exact p
    | cont ρ' => exact p
  | exc c fs =>
    rw [hf] at p
    exact p
  | bad =>
    rw [hf] at p
    exact p
theorem dss_one (h1 : DSt TS X st F1) : DSs TS X [st] F1 := .mk fun W ρ σ G_0 H_0 G H fp D tk s p => wpSs_of (pss_one (ps_wp X st)) (h1 W ρ σ G_0 H_0 G H fp D tk s p)
theorem dss_frz {i : Nat} (h : DSs TS X rest F) : DSs TS X rest (sFrz i F) := by
  refine ⟨?_⟩
  intro W ρ σ G_0 H_0 G H fp D tk s p
  unfold sFrz at p
  split at p
  · rename_i ds hi
    obtain ⟨G1, e, s1⟩ := s.freeze hi
    exact h W _ σ G_0 H_0 G1 H fp D tk s1 (p.shift e)
  · exact h W ρ σ G_0 H_0 G H fp D tk s p
theorem ds_pass : DSt TS X (.Pass pos) sNext := .mk fun W ρ σ G_0 H_0 G H fp D tk s p => wpSt_of ps_pass (p σ G H fp (Ex.refl G) s)
theorem ds_doc {x : Str} {j : Nat} {pos' : Pos} : DSt TS X (.Expr (.Constant (.str x) j pos) pos') sNext := .mk fun W ρ σ G_0 H_0 G H fp D tk s p => wpSt_of ps_doc (p σ G H fp (Ex.refl G) s)
theorem ds_break : DSt TS X (.Break pos) (fun ρ => .ok (.brk ρ)) := .mk fun W ρ σ G_0 H_0 G H fp D tk s p => wpSt_of ps_break (p σ G H fp (Ex.refl G) s)
theorem ds_continue : DSt TS X (.Continue pos) (fun ρ => .ok (.cont ρ)) := .mk fun W ρ σ G_0 H_0 G H fp D tk s p => wpSt_of ps_continue (p σ G H fp (Ex.refl G) s)
theorem ds_if (hc : DT TS X c ft) (h1 : DSs TS X b1 F1) (h2 : DSs TS X b2 F2) : DSt TS X (.If c b1 b2 pos) (sIf ft F1 F2) := by
  refine ⟨?_⟩
  intro W ρ σ G_0 H_0 G H fp D tk s p
  refine wpSt_of (ps_if (pt_wp X c) (pss_wp X b1) (pss_wp X b2)) ?_
  refine evT_run hc tk s p fun b H1 g p => ?_
  cases b with
  | true => exact iteT (h1 W ρ σ G_0 H_0 G H1 fp D tk (s.grow g) p)
  | false => exact iteF (h2 W ρ σ G_0 H_0 G H1 fp D tk (s.grow g) p)
theorem ds_set (i : Nat) {x : Str} {pos' : Pos} (he : DE TS X e fe) (C : CtE X) (hi : X.N[i]? = some x := by rfl) (hx : Loc X.env.scope x := by first | exact Or.inl rfl | exact Or.inr rfl) (hs : swapsWith e (some (.Name x pos')) pos.line X.env = pure false := by rfl) (hf : X.fn x = true ∨ X.env.scope.names.lookup x = some .local := by first | exact .inl rfl | exact .inr rfl) :
    DSt TS X (.Assign [.Name x pos'] e pos) (sSet i fe) := by
  refine ⟨?_⟩
  intro W ρ σ G_0 H_0 G H fp D tk s p
  refine wpSt_of (ps_set C.nd hi hx (pe_wp X e) hs hf) ?_
  exact evP_run he tk s p fun v d G1 H1 g r p => p _ G1 H1 fp g.g ((s.grow g).setVal r)
theorem SI.storeL {i : Nat} {v : V} {ds : List Pyr.D} (s : SI TS X.K G_0 H_0 ρ σ G H fp) (g : Gr TS G H G1 H1) (r : RelL X.K H G1 H1 v ds) : ∃ fp', SI TS X.K G_0 H_0 (ρ.set i (.own (.lst ds))) (σ.set i (some v)) G1 H1 fp' := by
  obtain ⟨q, vs, rfl, h0, g0, hp, r⟩ := r
  refine ⟨_, (s.grow g).setOwn (.lst hp r) (fun a ha => ?_) fun j u hj _ a ha hb => ?_⟩
  · rw [List.mem_singleton.mp ha]
    exact ⟨g0, s.gr.h.old q h0⟩
  · rw [List.mem_singleton.mp ha] at hb
    obtain ⟨v2, _, h2⟩ := s.own j u hj
    obtain ⟨w, hw, _⟩ := h2.there q hb
    rw [h0] at hw
    cases hw
theorem ds_setL (i : Nat) {x : Str} {pos' : Pos} (he : DL TS X e fl) (C : CtE X) (hi : X.N[i]? = some x := by rfl) (hx : Loc X.env.scope x := by first | exact Or.inl rfl | exact Or.inr rfl) (hs : swapsWith e (some (.Name x pos')) pos.line X.env = pure false := by rfl) (hf : X.fn x = true ∨ X.env.scope.names.lookup x = some .local := by first | exact .inl rfl | exact .inr rfl) :
    DSt TS X (.Assign [.Name x pos'] e pos) (sSetL i fl) := by
  refine ⟨?_⟩
  intro W ρ σ G_0 H_0 G H fp D tk s p
  refine wpSt_of (ps_set C.nd hi hx (pe_wp X e) hs hf) ?_
  refine evL_run he tk s p fun v ds G1 H1 g r p => ?_
  obtain ⟨fp', s'⟩ := s.storeL (i := i) g r
  exact p _ G1 H1 fp' g.g s'
theorem ds_ret (he : DE TS X e fe) : DSt TS X (.Return (some e) pos) (sRet fe) := by
  refine ⟨?_⟩
  intro W ρ σ G_0 H_0 G H fp D tk s p
  refine wpSt_of (ps_ret (pe_wp X e)) ?_
  exact evP_run he tk s p fun v d G1 H1 g r p => p v G1 H1 (s.gr.trans g) r
theorem ds_retL (he : DL TS X e fl) : DSt TS X (.Return (some e) pos) (sRetL fl) := by
  refine ⟨?_⟩
  intro W ρ σ G_0 H_0 G H fp D tk s p
  refine wpSt_of (ps_ret (pe_wp X e)) ?_
  refine evL_run he tk s p fun v ds G1 H1 g r p => ?_
  obtain ⟨q, vs, rfl, h0, g0, hp, r⟩ := r
  exact p _ G1 H1 (s.gr.trans g) ⟨q, vs, rfl, s.gr.h.old q h0, g0, hp, r⟩
theorem ds_retN : DSt TS X (.Return none pos) sRetN := .mk fun W ρ σ G_0 H_0 G H fp D tk s p => wpSt_of ps_retN (p .non G H s.gr .non)
theorem own_at {i : Nat} {ds : List Pyr.D} (s : SI TS X.K G_0 H_0 ρ σ G H fp) (hi : ρ[i]? = some (Sl.own (.lst ds))) : ∃ q vs, σ[i]? = some (some (.ref q)) ∧ H q = some (.lst vs) ∧ Rps X.K G vs ds ∧ G q = none ∧ H_0 q = none := by
  obtain ⟨v, hv, ro⟩ := s.own i _ hi
  have hfr := s.free i _ hi
  generalize fp i = l at ro hfr
  cases ro with
  | lst h r =>
    obtain ⟨z1, z2⟩ := hfr _ (List.mem_singleton.mpr rfl)
    exact ⟨_, _, hv, h, r, z1, z2⟩
theorem ds_retO (i : Nat) {x : Str} {pos' : Pos} (hN : X.N[i]? = some x := by rfl) (hv : Vis X.env.scope x := by first | exact Or.inl rfl | exact Or.inr (Or.inl rfl) | exact Or.inr (Or.inr rfl)) (hd : (x == ("__debug__" : Str)) = false := by decide) (hcd : (x == ("__classdict__" : Str)) = false := by decide) :
    DSt TS X (.Return (some (.Name x pos')) pos) (sRetO i) := by
  refine ⟨?_⟩
  intro W ρ σ G_0 H_0 G H fp D tk s p
  refine wpSt_of (ps_ret (pe_var hN hv hd hcd)) ?_
  unfold sRetO at p
  split at p
  · rename_i ds hi
    obtain ⟨q, vs, h1, h2, r, z1, z2⟩ := own_at s hi
    exact ⟨_, h1, p _ G H s.gr ⟨q, vs, rfl, z2, z1, h2, r⟩⟩
  · exact p.elim
theorem ds_drop (he : DE TS X e fe) (hs : swapsWith e none pos.line X.env = pure false := by rfl) : DSt TS X (.Expr e pos) (sDrop fe) := by
  refine ⟨?_⟩
  intro W ρ σ G_0 H_0 G H fp D tk s p
  refine wpSt_of (ps_expr (pe_wp X e) hs) ?_
  exact evP_run he tk s p fun v d G1 H1 g r p => p σ G1 H1 fp g.g (s.grow g)
theorem ds_app (i : Nat) {x : Str} {pos' apos cpos : Pos} (he : DE TS X e fe) (hN : X.N[i]? = some x := by rfl) (hv : Vis X.env.scope x := by first | exact Or.inl rfl | exact Or.inr (Or.inl rfl) | exact Or.inr (Or.inr rfl)) (hd : (x == ("__debug__" : Str)) = false := by decide) (hcd : (x == ("__classdict__" : Str)) = false := by decide)
    (hbase : attributeBase (.Name x pos') "append" X.env (eval (.Name x pos') X.env) = eval (.Name x pos') X.env := by rfl)
    (hfew : ((backTo cpos (starEach [e] X.env)).all (fun x => !x.1) && (backToKw cpos (keywordEach [] X.env)).all (fun x => x.1.isSome)
      && decide ([e].length + ([] : List Keyword).length + (if ([] : List Keyword).isEmpty then 0 else 1) < 30)) = true := by rfl)
    (hline : (apos.endLine == cpos.line) = true := by rfl) (hs : starEach [e] X.env = (false, eval e X.env) :: starEach [] X.env := by rfl) (hplain : (backTo cpos (starEach [] X.env)).any (·.1) = false := by rfl)
    (hsw : swapsWith (.Call (.Attribute (.Name x pos') "append" apos) [e] [] cpos) none pos.line X.env = pure false := by rfl) :
    DSt TS X (.Expr (.Call (.Attribute (.Name x pos') "append" apos) [e] [] cpos) pos) (sApp i fe) := by
  refine ⟨?_⟩
  intro W ρ σ G_0 H_0 G H fp D tk s p
  refine wpSt_of (ps_expr (pe_bm PySem.F.plainAttrs_list PySem.F.slot_list_append PySem.F.type_list_append mt_append (pe_var hN hv hd hcd) (pa_cons (pe_wp X e) pa_nil hs) hbase hfew hline hs hplain) hsw) ?_
  unfold sApp at p
  split at p
  · rename_i ds hi
    obtain ⟨q, vs, h1, h2, r, z1, z2⟩ := own_at s hi
    refine ⟨_, h1, Or.inl ⟨rfl, vs, SqL.of h2⟩, ?_⟩
    refine evP_run he tk s p fun v d G1 H1 g rv p => ?_
    have hp : ds.length + 1 ≤ LIM ∧ PostS TS X W G_0 H_0 G D (.ok (.next (ρ.set i (.own (.lst (ds ++ [d])))))) := by
      unfold okL at p
      split at p
      · exact ⟨by assumption, p⟩
      · exact p.elim
    have hq : H1 q = some (.lst vs) := g.h.at h2 rfl
    refine ⟨q, vs, v, rfl, rfl, hq, ?_, ?_⟩
    · rw [r.len]
      exact Nat.lt_of_lt_of_le hp.1 (by decide)
    · exact hp.2 σ G1 _ fp g.g ((s.grow g).change hi h1 ((r.mono g.g).app (.cons rv .nil)))
  · exact p.elim
theorem ds_put (i : Nat) {x : Str} {j : Expr} {pos' spos : Pos} (he : DE TS X e fe) (hj : DE TS X j fj) (hN : X.N[i]? = some x := by rfl) (hv : Vis X.env.scope x := by first | exact Or.inl rfl | exact Or.inr (Or.inl rfl) | exact Or.inr (Or.inr rfl)) (hd : (x == ("__debug__" : Str)) = false := by decide) (hcd : (x == ("__classdict__" : Str)) = false := by decide)
    (ha : ∀ v, assign (.Subscript (.Name x pos') j spos) X.env v = (do
      let ov ← holding [v] (eval (.Name x pos') X.env)
      let iv ← holding [v, ov] (eval j X.env)
      standAt spos
      holding [v, ov, iv] (setItem ov iv v)
      release [v, ov, iv] []) := by intro _; rfl)
    (hs : swapsWithSole [.Subscript (.Name x pos') j spos] e pos.line X.env = pure false := by rfl) (hw : swappedStores [.Subscript (.Name x pos') j spos] e X.env = pure none := by rfl)
    (h1 : (assignEach [.Subscript (.Name x pos') j spos] X.env).map (·.2) = [assign (.Subscript (.Name x pos') j spos) X.env] := by rfl) :
    DSt TS X (.Assign [.Subscript (.Name x pos') j spos] e pos) (sPut i fj fe) := by
  refine ⟨?_⟩
  intro W ρ σ G_0 H_0 G H fp D tk s p
  refine wpSt_of (ps_asg (pe_wp X e) (pg_sub (pe_var hN hv hd hcd) (pe_wp X j) set_list ha) hs hw h1) ?_
  unfold sPut at p
  split at p
  · rename_i ds hi
    refine evP_run he tk s p fun v d G1 H1 g rv p => ?_
    obtain ⟨q, vs, h1, h2, r, z1, z2⟩ := own_at (s.grow g) hi
    refine ⟨_, h1, ?_⟩
    refine evP_run hj tk (s.grow g) (p.shift g.g) fun w dj G2 H2 g2 rw' p => ?_
    cases rw' with
    | int k =>
      have p : PostS TS X W G_0 H_0 G1 D (match ixN ds.length k with
        | some n => .ok (.next (ρ.set i (.own (.lst (ds.set n d)))))
        | none => .bad) := p
      cases hx : ixN ds.length k with
      | none =>
        rw [hx] at p
        exact p.elim
      | some n =>
        rw [hx] at p
        have hq : H2 q = some (.lst vs) := g2.h.at h2 rfl
        refine ⟨q, vs, k, n, rfl, rfl, hq, by rw [r.len]; exact hx, ?_⟩
        exact p σ G2 _ fp g2.g (((s.grow g).grow g2).change hi h1 ((r.mono g2.g).put (rv.mono g2.g) n))
    | _ => exact p.elim
  · exact p.elim
theorem ds_aug (i : Nat) {x : Str} {pos' : Pos} (he : DE TS X e fe) (C : CtE X) (hi : X.N[i]? = some x := by rfl) (hx : Loc X.env.scope x := by first | exact Or.inl rfl | exact Or.inr rfl) (hf : X.fn x = true ∨ X.env.scope.names.lookup x = some .local := by first | exact .inl rfl | exact .inr rfl) :
    DSt TS X (.AugAssign (.Name x pos') .Add e pos) (sAug i fe) := by
  refine ⟨?_⟩
  intro W ρ σ G_0 H_0 G H fp D tk s p
  refine wpSt_of (ps_aug C.nd hi hx (pe_wp X e) ip_add hf) ?_
  unfold sAug at p
  split at p
  · rename_i n hn
    obtain ⟨v, h1, h2⟩ := s.val i _ hn
    cases h2
    refine ⟨_, h1, ?_⟩
    refine evP_run he tk s p fun w d G1 H1 g r p => ?_
    cases r with
    | int m => exact ⟨n, m, rfl, rfl, p _ G1 H1 fp g.g ((s.grow g).setVal (.int _))⟩
    | _ => exact p.elim
  · exact p.elim
end

/-! ### a def -/
def frm0 (n : Nat) (ds : List D) : Frm := ds.map Sl.val ++ List.replicate (n - ds.length) Sl.emp
def outR : Res Fl → Res RV
  | .ok (.next _) => .ok (.val .none)
  | .ok (.ret r) => .ok r
  | .exc c fs => .exc c fs
  | _ => .bad
/-- the function of a def: np parameters, n names -/
def defM (np n : Nat) (F : Frm → Res Fl) : List D → Res RV := fun ds => if ds.length = np then outR (F (frm0 n ds)) else .bad
theorem SI.start {TS : TabList} {K : PySem.W.Frag} {G H : Hp} {vs : List V} {ds : List D} {N : List Str} (k : Ok0 TS G H) (r : Rps K G vs ds) : SI TS K G H (frm0 N.length ds) (start N vs) G H (fun _ => []) := by
  have noOwn : ∀ {i : Nat} {o : Own}, ¬ (frm0 N.length ds)[i]? = some (Sl.own o) := fun {i o} h => by
    have m := List.mem_of_getElem? h
    unfold frm0 at m
    rcases List.mem_append.mp m with m | m
    · obtain ⟨d, _, e⟩ := List.mem_map.mp m
      cases e
    · have e := (List.mem_replicate.mp m).2
      cases e
  refine ⟨Gr.refl k, by simp [frm0, L2.start, r.len], fun i d h => ?_, fun i o h => (noOwn h).elim, fun i j o u h => (noOwn h).elim, fun i o h => (noOwn h).elim⟩
  unfold frm0 at h
  by_cases hi : i < ds.length
  · rw [List.getElem?_append_left (by simpa using hi), List.getElem?_map] at h
    cases e : ds[i]? with
    | none =>
      rw [e] at h
      cases h
    | some d' =>
      rw [e] at h
      cases h
      obtain ⟨v, h1, h2⟩ := r.at e
      refine ⟨v, ?_, h2⟩
      unfold L2.start
      have hv : i < vs.length := (List.getElem?_eq_some_iff.mp h1).1
      rw [List.getElem?_append_left (by simpa using hv), List.getElem?_map, h1]
      rfl
  · rw [List.getElem?_append_right (by simpa using Nat.le_of_not_lt hi)] at h
    have e := (List.mem_replicate.mp (List.mem_of_getElem? h)).2
    cases e
theorem known_mk {TS : TabList} {P : Program} {w : World} {K : PySem.W.Frag} {mg : Str → Option Value} {base : Heap} {x qual : Str} {st : Stmt} {f : Addr} {fd : FuncData} {N ps : List Str} {k : Nat} {F : Frm → Res Fl} (Fn : L2.Fun K x qual st f fd) (S : FnScope N ps (defScope st)) (hm : mg x = some (.ref f)) (hb : Binds K fd ps [])
    (body : ∀ (cdv : Value) (A : Around) (outer : List Env) (s : Shared) (H : Hp) (E : XK), Room k (A.deeper (envOfC qual (defScope st) s.heap.objs.size f cdv)) → DSs TS (cxOf (L2.CX P w) P w K mg base N qual (defScope st) f cdv A outer s H E) (defBody st) F) :
    Known TS P w K mg base (k + 1) x ps (defM ps.length N.length F) := by
  refine ⟨f, fd, Fun.okX Fn S (fun vs H Q E h => ?_) (fun cdv A outer s H vs Q E hr h => ?_), hm, Fn.kp, hb⟩
  · obtain ⟨G, ds, r, ok, p⟩ := h
    unfold defM at p
    split at p
    · rename_i e
      rw [r.len, e]
    · exact p.elim
  · obtain ⟨G, ds, r, ok, p⟩ := h
    unfold defM at p
    split at p
    · refine ⟨_, pss_wp _ _, body cdv A outer s H E hr (fun cls d _ H => E cls d H) (frm0 N.length ds) (L2.start N vs) G H G H (fun _ => []) _ (takes_of rfl rfl rfl rfl) (SI.start ok r) ?_⟩
      cases hf : F (frm0 N.length ds) with
      | ok fl =>
        rw [hf] at p
        cases fl with
        | next ρ => exact fun σ' G' H' fp' _ s' => p .non G' H' s'.gr .non
        | ret rv =>
          cases rv with
          | val d => exact p
          | own ds => exact p
          | ownU dss => exact p
        | brk ρ => exact p.elim
        | cont ρ => exact p.elim
      | exc c fs =>
        rw [hf] at p
        exact fun C d _ G' H' m g r => p C d G' H' m g r
      | bad =>
        rw [hf] at p
        exact p.elim
    · exact p.elim
theorem room_ct {k : Nat} {A : Around} (h : Room k A) : A.units + 65 < cLine := by have := h.un; omega
end Pyr

set_option Elab.async false
set_option autoImplicit false
set_option linter.all false
set_option maxRecDepth 100000
set_option maxHeartbeats 1000000
namespace Pyr
open PySem PySem.Spec PyProof.Rows L2 Evl

/-! ### what is walked -/
def Walker (TS : TabList) (K : PySem.W.Frag) (J : It) (ds : List D) (G : Hp) : Prop := ∀ (G1 H : Hp), Ex G G1 → Ok0 TS G1 H →
  (∀ (i : Nat) (x : D), ds[i]? = some x → J.go i H ∧ ∀ v H', J.yld i H v H' → ∃ G', Gr TS G1 H G' H' ∧ Rp K G' v x) ∧ J.stop ds.length H
abbrev RelJ' (TS : TabList) (K : PySem.W.Frag) : Hp → Hp → Hp → It → List D → Prop := fun _ G' _ J ds => Walker TS K J ds G'
theorem back_J {TS : TabList} {K : PySem.W.Frag} : Back (RelJ' TS K) := fun _ _ _ _ _ _ _ h => h
def wpIt (X : Cx) (tg iter : Expr) : TI := fun σ H R => ∀ (pins : List (Addr × Obj)) (s : Shared), Inv X pins σ H s → wpAny (model X.prog X.w) X.A (eval iter X.env) (fun v s1 => wpAny (model X.prog X.w) X.A (pyIter v) (PIE X pins σ tg R) X.xe s1) X.xe s
theorem pi_wp (X : Cx) (tg iter : Expr) : PI X tg iter (wpIt X tg iter) := ⟨fun pins s _ _ _ I h => h pins s I⟩
theorem wpIt_of {X : Cx} {tg iter : Expr} {t : TI} {σ : L2.St} {H : Hp} {R : It → Hp → Prop} (h : PI X tg iter t) (q : t σ H R) : wpIt X tg iter σ H R := fun pins s I => h.run pins s σ H R I q
structure DI (TS : TabList) (X : Cx) (tg iter : Expr) (f : En → Res (List D)) : Prop where
  run : ∀ (W : WX) (ρ : En) (σ : L2.St) (G H : Hp) (R : It → Hp → Prop), Takes X W → RpE TS X.K G H ρ σ → Ok0 TS G H → PostG (RelJ' TS X.K) TS X W σ G H (f ρ) R → wpIt X tg iter σ H R
instance {TS : TabList} {X : Cx} {tg iter : Expr} {f : En → Res (List D)} : CoeFun (DI TS X tg iter f) fun _ => ∀ (W : WX) (ρ : En) (σ : L2.St) (G H : Hp) (R : It → Hp → Prop), Takes X W → RpE TS X.K G H ρ σ → Ok0 TS G H → PostG (RelJ' TS X.K) TS X W σ G H (f ρ) R → wpIt X tg iter σ H R := ⟨DI.run⟩
def signsD (x : Str) : List D := x.cps.toList.map fun c => .str ⟨#[c]⟩
def walkD : D → Res (List D)
  | .list ds => .ok ds
  | .tuple ds => .ok ds
  | .str x => .ok (signsD x)
  | _ => .bad
def iF (g : D → Res (List D)) (fa : En → Res D) : En → Res (List D) := fun ρ => (fa ρ).bind g
section
variable {TS : TabList} {X : Cx} {tg a b : Expr} {fa fb : En → Res D} {es : List Expr} {fr : En → Res (List D)} {pos : Pos}
theorem walker_list {q : Addr} {xs : List V} {ds : List D} {G : Hp} (h : SqL X.K G q xs) (r : Rps X.K G xs ds) : Walker TS X.K (Itl X.K q) ds G := by
  intro G1 H e ok
  have h1 : SqL X.K H q xs := ex_l (e.trans ok.le) h
  refine ⟨fun i x hx => ?_, ⟨xs, h1, by rw [r.len]; exact Nat.le_refl _⟩⟩
  obtain ⟨v, hv, rv⟩ := r.at hx
  refine ⟨⟨xs, v, h1, hv⟩, fun v' H' y => ?_⟩
  obtain ⟨rfl, y⟩ := y
  have e2 : some v' = some v := (y xs h1).symm.trans hv
  cases e2
  exact ⟨G1, Gr.refl ok, rv.mono e⟩
theorem walker_tup {q : Addr} {xs : List V} {ds : List D} {G : Hp} (h : SqT X.K G q xs) (r : Rps X.K G xs ds) : Walker TS X.K (Itt X.K q) ds G := by
  intro G1 H e ok
  have h1 : SqT X.K H q xs := ex_t (e.trans ok.le) h
  refine ⟨fun i x hx => ?_, ⟨xs, h1, by rw [r.len]; exact Nat.le_refl _⟩⟩
  obtain ⟨v, hv, rv⟩ := r.at hx
  refine ⟨⟨xs, v, h1, hv⟩, fun v' H' y => ?_⟩
  obtain ⟨rfl, y⟩ := y
  have e2 : some v' = some v := (y xs h1).symm.trans hv
  cases e2
  exact ⟨G1, Gr.refl ok, rv.mono e⟩
theorem walker_str {x : Str} {G : Hp} : Walker TS X.K (Its x) (signsD x) G := by
  intro G1 H e ok
  have hs : (signsD x).length = x.cps.size := by unfold signsD; simp
  refine ⟨fun i d hd => ?_, by rw [hs]; exact Nat.le_refl _⟩
  have hi : i < x.cps.size := by rw [← hs]; exact (List.getElem?_eq_some_iff.mp hd).1
  refine ⟨hi, fun v' H' y => ?_⟩
  obtain ⟨rfl, c, hc, rfl⟩ := y
  unfold signsD at hd
  rw [List.getElem?_map, Array.getElem?_toList, hc] at hd
  cases hd
  exact ⟨G1, Gr.refl ok, .str _⟩
/-- a list, a tuple, a text -/
theorem di_any (ha : DE TS X a fa) : DI TS X tg a (iF walkD fa) := by
  refine ⟨?_⟩
  intro W ρ σ G H R tk re ok post
  have main : ∀ {t : TE → TI} (_ : ∀ {te : TE}, PE X a te → PI X tg a (t te)), (∀ (d : D) (ds : List D), fa ρ = .ok d → walkD d = .ok ds → True) → True := fun _ _ => trivial
  cases hf : fa ρ with
  | ok d =>
    have post : PostG (RelJ' TS X.K) TS X W σ G H ((fa ρ).bind walkD) R := post
    cases d with
    | list ds =>
      refine wpIt_of (pi_list (pe_wp X a)) ?_
      refine bindP (wp := fun R => wpE X a σ H R) back_J (fun Q' p => ha W ρ σ G H Q' tk re ok p) post fun v x G1 H1 hx g1 rx p => ?_
      rw [hf] at hx
      cases hx
      obtain ⟨q, xs, rfl, hq, r⟩ := rx.list_inv
      exact ⟨q, rfl, ⟨xs, ex_l g1.ok.le hq⟩, p _ G1 H1 (Gr.refl g1.ok) (walker_list hq r)⟩
    | tuple ds =>
      refine wpIt_of (pi_tup (pe_wp X a)) ?_
      refine bindP (wp := fun R => wpE X a σ H R) back_J (fun Q' p => ha W ρ σ G H Q' tk re ok p) post fun v x G1 H1 hx g1 rx p => ?_
      rw [hf] at hx
      cases hx
      obtain ⟨q, xs, rfl, hq, r⟩ := rx.tup_inv
      exact ⟨q, rfl, ⟨xs, ex_t g1.ok.le hq⟩, p _ G1 H1 (Gr.refl g1.ok) (walker_tup hq r)⟩
    | str z =>
      refine wpIt_of (pi_str (pe_wp X a)) ?_
      refine bindP (wp := fun R => wpE X a σ H R) back_J (fun Q' p => ha W ρ σ G H Q' tk re ok p) post fun v x G1 H1 hx g1 rx p => ?_
      rw [hf] at hx
      cases hx
      cases rx
      exact ⟨z, rfl, p _ G1 H1 (Gr.refl g1.ok) walker_str⟩
    | _ =>
      rw [hf] at post
      exact post.elim
  | exc c fs =>
    have post : PostG (RelJ' TS X.K) TS X W σ G H ((fa ρ).bind walkD) R := post
    rw [hf] at post
    refine wpIt_of (pi_list (pe_wp X a)) (ha W ρ σ G H _ tk re ok ?_)
    rw [hf]
    exact post
  | bad =>
    have post : PostG (RelJ' TS X.K) TS X W σ G H ((fa ρ).bind walkD) R := post
    rw [hf] at post
    exact post.elim
/-- lo, lo + 1, .. -/
def upto (lo : Int) : Nat → List D
  | 0 => []
  | n + 1 => .int lo :: upto (lo + 1) n
theorem upto_len : ∀ (n : Nat) (lo : Int), (upto lo n).length = n
  | 0, _ => rfl
  | n + 1, lo => by show (upto (lo + 1) n).length + 1 = n + 1; rw [upto_len n]
theorem upto_at : ∀ (n : Nat) (lo : Int) (i : Nat) (d : D), (upto lo n)[i]? = some d → d = .int (lo + i)
  | 0, _, _, _, h => by simp [upto] at h
  | n + 1, lo, 0, d, h => by
    have e : some (PyData.int lo) = some d := h
    cases e
    simp
  | n + 1, lo, i + 1, d, h => by
    rw [upto_at n (lo + 1) i d h]
    congr 1
    omega
theorem walker_range {lo : Int} {n : Nat} {G : Hp} : Walker TS X.K (Itr lo n) (upto lo n) G := by
  intro G1 H e ok
  refine ⟨fun i d hd => ?_, by rw [upto_len]; exact Nat.le_refl _⟩
  have hi : i < n := by rw [← upto_len n lo]; exact (List.getElem?_eq_some_iff.mp hd).1
  refine ⟨hi, fun v' H' y => ?_⟩
  obtain ⟨rfl, rfl⟩ := y
  rw [upto_at n lo i d hd]
  exact ⟨G1, Gr.refl ok, .int _⟩
def r1D : D → Res (List D)
  | .int n => if -(2 ^ 62) ≤ n ∧ n < 2 ^ 62 then .ok (upto 0 n.toNat) else .bad
  | _ => .bad
def r2D : D → D → Res (List D)
  | .int m, .int n => if -(2 ^ 62) ≤ m ∧ m < 2 ^ 62 ∧ -(2 ^ 62) ≤ n ∧ n < 2 ^ 62 then .ok (upto m (n - m).toNat) else .bad
  | _, _ => .bad
def iF2 (g : D → D → Res (List D)) (fa fb : En → Res D) : En → Res (List D) := fun ρ => (fa ρ).bind fun x => (fb ρ).bind fun y => g x y
theorem di_range1 {p : Pos} (hg : Gl X "range") (hm : X.mg "range" = none) (ha : DE TS X a fa) (hs : starEach [a] X.env = [(false, eval a X.env)] := by rfl) : DI TS X tg (.Call (.Name "range" p) [a] [] pos) (iF r1D fa) := by
  refine ⟨?_⟩
  intro W ρ σ G H R tk re ok post
  refine wpIt_of (pi_range1 hg hm (pa_cons (pe_wp X a) pa_nil hs) hs) ?_
  refine bindP (wp := fun R => wpE X a σ H R) back_J (fun Q' p => ha W ρ σ G H Q' tk re ok p) post fun v x G1 H1 _ g1 rx p => ?_
  unfold r1D at p
  split at p
  · cases rx
    split at p
    · rename_i h
      exact ⟨_, rfl, h.1, h.2, p _ G1 H1 (Gr.refl g1.ok) walker_range⟩
    · exact p.elim
  · exact p.elim
theorem di_range2 {p : Pos} (hg : Gl X "range") (hm : X.mg "range" = none) (ha : DE TS X a fa) (hb : DE TS X b fb) (hs : starEach [a, b] X.env = [(false, eval a X.env), (false, eval b X.env)] := by rfl) (hs2 : starEach [b] X.env = [(false, eval b X.env)] := by rfl) :
    DI TS X tg (.Call (.Name "range" p) [a, b] [] pos) (iF2 r2D fa fb) := by
  refine ⟨?_⟩
  intro W ρ σ G H R tk re ok post
  refine wpIt_of (pi_range2 hg hm (pa_cons (pe_wp X a) (pa_cons (pe_wp X b) pa_nil hs2) (by rw [hs, hs2])) hs hs2) ?_
  refine bindP (wp := fun R => wpE X a σ H R) back_J (fun Q' p => ha W ρ σ G H Q' tk re ok p) post fun v x G1 H1 _ g1 rx p => ?_
  refine bindP (wp := fun R => wpE X b σ H1 R) back_J (fun Q' q => hb W ρ σ G1 H1 Q' tk (re.mono g1) g1.ok q) p fun u y G2 H2 _ g2 ry p => ?_
  unfold r2D at p
  split at p
  · cases rx
    cases ry
    split at p
    · rename_i h
      exact ⟨_, _, rfl, h, p _ G2 H2 (Gr.refl g2.ok) walker_range⟩
    · exact p.elim
  · exact p.elim
/-- a new pair at each turn -/
def pairs (xs ys : List D) : List D := (xs.zip ys).map fun p => .tuple [p.1, p.2]
def enumL : Nat → List D → List D
  | _, [] => []
  | n, d :: ds => .tuple [.int n, d] :: enumL (n + 1) ds
theorem enum_len : ∀ (ds : List D) (n : Nat), (enumL n ds).length = ds.length
  | [], _ => rfl
  | d :: ds, n => by show (enumL (n + 1) ds).length + 1 = ds.length + 1; rw [enum_len ds]
theorem enum_at : ∀ (ds : List D) (n i : Nat) (x : D), (enumL n ds)[i]? = some x → ∃ d, ds[i]? = some d ∧ x = .tuple [.int ((n + i : Nat) : Int), d]
  | [], _, _, _, h => by simp [enumL] at h
  | d :: ds, n, 0, x, h => by
    have e : some (PyData.tuple [.int n, d]) = some x := h
    cases e
    exact ⟨d, rfl, by simp⟩
  | d :: ds, n, i + 1, x, h => by
    obtain ⟨y, h1, h2⟩ := enum_at ds (n + 1) i x h
    refine ⟨y, by simpa using h1, ?_⟩
    rw [h2]
    congr 3
    omega
def enumD : D → Res (List D)
  | .list ds => .ok (enumL 0 ds)
  | _ => .bad
theorem pair_new {K : PySem.W.Frag} {G H : Hp} {T : Addr} {v u : V} {x y : D} (ok : Ok0 TS G H) (h : H T = none) (r1 : Rp K G v x) (r2 : Rp K G u y) : ∃ G', Gr TS G H G' (upd H T (.tup [v, u])) ∧ Rp K G' (.ref T) (.tuple [x, y]) := by
  have g := Gr.new (o := .tup [v, u]) ok h
  exact ⟨_, g, .tup (.inl (.inl upd_same)) (.cons (r1.mono g.g) (.cons (r2.mono g.g) .nil))⟩
theorem di_enum {elts : List Expr} {kk : Nat} {p tpos : Pos} (hg : Gl X "enumerate") (hm : X.mg "enumerate" = none) (ha : DE TS X a fa) (hs : starEach [a] X.env = [(false, eval a X.env)] := by rfl) : DI TS X (.Tuple elts kk tpos) (.Call (.Name "enumerate" p) [a] [] pos) (iF enumD fa) := by
  refine ⟨?_⟩
  intro W ρ σ G H R tk re ok post
  refine wpIt_of (pi_enum hg hm (pa_cons (pe_wp X a) pa_nil hs) hs) ?_
  refine bindP (wp := fun R => wpE X a σ H R) back_J (fun Q' p => ha W ρ σ G H Q' tk re ok p) post fun v x G1 H1 _ g1 rx p => ?_
  unfold enumD at p
  split at p
  · rename_i ds _
    obtain ⟨q, xs, rfl, hq, r⟩ := rx.list_inv
    refine ⟨q, xs, rfl, ex_l g1.ok.le hq, p _ G1 H1 (Gr.refl g1.ok) ?_⟩
    intro G2 H2 e ok2
    have h1 : SqL X.K H2 q xs := ex_l (e.trans ok2.le) hq
    refine ⟨fun i x hx => ?_, ⟨xs, h1, by rw [r.len, enum_len]; exact Nat.le_refl _⟩⟩
    obtain ⟨d, hd, rfl⟩ := enum_at ds 0 i x hx
    obtain ⟨v, hv, rv⟩ := r.at hd
    refine ⟨⟨xs, v, h1, hv⟩, fun v' H' y => ?_⟩
    obtain ⟨T, z, rfl, hT, rfl, hz⟩ := y
    have e2 : some z = some v := (hz xs h1).symm.trans hv
    cases e2
    have r0 : Rp X.K G2 (.int ((i : Nat) : Int)) (.int ((0 + i : Nat) : Int)) := by rw [Nat.zero_add]; exact .int _
    exact pair_new ok2 hT r0 (rv.mono e)
  · exact p.elim
end

/-! ### targets -/
inductive Tg where
  | nm (i : Nat)
  | tp (is : List Nat)
def gMany : List Nat → TGs
  | [] => gNil
  | i :: is => gCons (gName i) (gMany is)
def gTg (K : PySem.W.Frag) : Tg → TG
  | .nm i => gName i
  | .tp is => gTup K is.length (gMany is)
def Tg.all : Tg → List Nat
  | .nm i => [i]
  | .tp is => is
def setsE : List Nat → List D → En → En
  | i :: is, d :: ds, ρ => setsE is ds (ρ.set i (some d))
  | _, _, ρ => ρ
def tgE : Tg → D → En → Res En
  | .nm i, d, ρ => .ok (ρ.set i (some d))
  | .tp is, .tuple ds, ρ => if ds.length = is.length then .ok (setsE is ds ρ) else .bad
  | _, _, _ => .bad
def setsF : List Nat → List D → Frm → Frm
  | i :: is, d :: ds, ρ => setsF is ds (ρ.set i (.val d))
  | _, _, ρ => ρ
def tgF : Tg → D → Frm → Res Frm
  | .nm i, d, ρ => .ok (ρ.set i (.val d))
  | .tp is, .tuple ds, ρ => if ds.length = is.length then .ok (setsF is ds ρ) else .bad
  | _, _, _ => .bad
section
variable {TS : TabList} {K : PySem.W.Frag} {G_0 H_0 G H : Hp} {fp : Nat → List Addr}
theorem RpE.set {ρ : En} {σ : L2.St} {i : Nat} {v : V} {d : D} (h : RpE TS K G H ρ σ) (r : Rp K G v d) : RpE TS K G H (ρ.set i (some d)) (σ.set i (some v)) := by
  refine ⟨by simpa using h.len, fun j d' e z => ?_, fun j ds e => ?_, fun j ds e => ?_⟩
  · rcases set_at e with ⟨rfl, e, hl⟩ | ⟨ne, e⟩
    · cases e
      exact ⟨v, List.getElem?_set_self (Nat.lt_of_lt_of_le hl h.len), r⟩
    · rw [List.getElem?_set_ne ne]
      exact h.at' j d' e z
  · rcases set_at e with ⟨rfl, e, hl⟩ | ⟨ne, e⟩
    · cases e
      exact absurd r.notLo (by simp [isLo])
    · rw [List.getElem?_set_ne ne]
      exact h.lo j ds e
  · rcases set_at e with ⟨rfl, e, hl⟩ | ⟨ne, e⟩
    · cases e
      exact absurd r.notLo (by simp [isLo])
    · rw [List.getElem?_set_ne ne]
      exact h.st j ds e
theorem wipe_at {j : Nat} : ∀ (vs : List Nat) (τ : L2.St), (wipe τ vs)[j]? = if j ∈ vs then (τ[j]?).map (fun _ => none) else τ[j]? := by
  intro vs
  induction vs with
  | nil => intro τ; simp [wipe]
  | cons w ws ih =>
    intro τ
    show ((wipe τ ws).set w none)[j]? = _
    by_cases e : w = j
    · subst e
      rw [if_pos List.mem_cons_self, List.getElem?_set]
      rw [wipe_length]
      by_cases hl : w < τ.length
      · simp [hl]
      · simp [hl]
    · rw [List.getElem?_set_ne e, ih]
      by_cases m : j ∈ ws
      · rw [if_pos m, if_pos (List.mem_cons_of_mem _ m)]
      · rw [if_neg m, if_neg (fun z => (List.mem_cons.mp z).elim (fun q => e q.symm) m)]
theorem wipe_set {σ : L2.St} {i : Nat} {x : Option V} {vs : List Nat} (h : i ∈ vs) : wipe (σ.set i x) vs = wipe σ vs := by
  apply List.ext_getElem?
  intro j
  rw [wipe_at, wipe_at]
  by_cases e : i = j
  · subst e
    rw [if_pos h, if_pos h, List.getElem?_set]
    by_cases hl : i < σ.length
    · simp [hl]
    · simp [hl]
  · rw [List.getElem?_set_ne e]
theorem wipe_wipe (σ : L2.St) (vs : List Nat) : wipe (wipe σ vs) vs = wipe σ vs := by
  apply List.ext_getElem?
  intro j
  rw [wipe_at, wipe_at]
  by_cases m : j ∈ vs
  · rw [if_pos m, if_pos m]
    cases σ[j]? <;> rfl
  · rw [if_neg m, if_neg m]
theorem gMany_ok {Q : L2.St → Hp → Prop} {own : List Nat} : ∀ (is : List Nat) (ds : List D) (vs : List V) (ρ : En) (σ : L2.St), (∀ i ∈ is, i ∈ own) → ds.length = is.length → Rps K G vs ds → RpE TS K G H ρ σ →
    (∀ σ', RpE TS K G H (setsE is ds ρ) σ' → wipe σ' own = wipe σ own → Q σ' H) → gMany is vs σ H Q
  | [], [], _, ρ, σ, _, _, .nil, re, k => ⟨rfl, k σ re rfl⟩
  | i :: is, d :: ds, _, ρ, σ, ho, hl, .cons r rs, re, k => by
    refine ⟨_, _, rfl, ?_⟩
    refine gMany_ok is ds _ (ρ.set i (some d)) (σ.set i (some _)) (fun j hj => ho j (List.mem_cons_of_mem _ hj)) (by simpa using hl) rs (re.set r) fun σ' h1 h2 => k σ' h1 ?_
    rw [h2, wipe_set (ho i List.mem_cons_self)]
  | [], _ :: _, _, _, _, _, hl, _, _, _ => by simp at hl
  | _ :: _, [], _, _, _, _, hl, _, _, _ => by simp at hl
theorem gTg_ok {Q : L2.St → Hp → Prop} {own : List Nat} {t : Tg} {d : D} {v : V} {ρ ρ' : En} {σ : L2.St} (ok : Ok0 TS G H) (ho : ∀ i ∈ t.all, i ∈ own) (r : Rp K G v d) (re : RpE TS K G H ρ σ) (e : tgE t d ρ = .ok ρ')
    (k : ∀ σ', RpE TS K G H ρ' σ' → wipe σ' own = wipe σ own → Q σ' H) : gTg K t v σ H Q := by
  cases t with
  | nm i =>
    cases e
    exact k _ (re.set r) (wipe_set (ho i (by simp [Tg.all])))
  | tp is =>
    cases r <;> try cases e
    rename_i a xs ds h rs
    have e : (if ds.length = is.length then Res.ok (setsE is ds ρ) else .bad) = .ok ρ' := e
    split at e
    · rename_i hl
      cases e
      exact ⟨a, xs, rfl, ex_t ok.le h, by rw [rs.len, hl], gMany_ok is ds xs ρ σ ho hl rs re k⟩
    · cases e
theorem gManyF_ok {Q : L2.St → Hp → Prop} : ∀ (is : List Nat) (ds : List D) (vs : List V) (ρ : Frm) (σ : L2.St), ds.length = is.length → Rps K G vs ds → SI TS K G_0 H_0 ρ σ G H fp →
    (∀ σ', SI TS K G_0 H_0 (setsF is ds ρ) σ' G H fp → Q σ' H) → gMany is vs σ H Q
  | [], [], _, ρ, σ, _, .nil, re, k => ⟨rfl, k σ re⟩
  | i :: is, d :: ds, _, ρ, σ, hl, .cons r rs, re, k => ⟨_, _, rfl, gManyF_ok is ds _ (ρ.set i (.val d)) (σ.set i (some _)) (by simpa using hl) rs (re.setVal r) k⟩
  | [], _ :: _, _, _, _, hl, _, _, _ => by simp at hl
  | _ :: _, [], _, _, _, hl, _, _, _ => by simp at hl
theorem gTgF_ok {Q : L2.St → Hp → Prop} {t : Tg} {d : D} {v : V} {ρ ρ' : Frm} {σ : L2.St} (r : Rp K G v d) (s : SI TS K G_0 H_0 ρ σ G H fp) (e : tgF t d ρ = .ok ρ') (k : ∀ σ', SI TS K G_0 H_0 ρ' σ' G H fp → Q σ' H) : gTg K t v σ H Q := by
  cases t with
  | nm i =>
    cases e
    exact k _ (s.setVal r)
  | tp is =>
    cases r <;> try cases e
    rename_i a xs ds h rs
    have e : (if ds.length = is.length then Res.ok (setsF is ds ρ) else .bad) = .ok ρ' := e
    split at e
    · rename_i hl
      cases e
      exact ⟨a, xs, rfl, ex_t s.gr.ok.le h, by rw [rs.len, hl], gManyF_ok is ds xs ρ σ hl rs s k⟩
    · cases e
end
end Pyr

set_option Elab.async false
set_option autoImplicit false
set_option linter.all false
set_option maxRecDepth 100000
set_option maxHeartbeats 1000000
namespace Pyr
open PySem PySem.Spec PyProof.Rows L2 Evl

/-! ### for -/
def forF (t : Tg) (F : Frm → Res Fl) : List D → Frm → Res Fl
  | [], ρ => .ok (.next ρ)
  | d :: ds, ρ => (tgF t d ρ).bind fun ρ1 => (F ρ1).bind fun fl => match fl with
    | .next ρ2 => forF t F ds ρ2
    | .cont ρ2 => forF t F ds ρ2
    | .brk ρ2 => .ok (.next ρ2)
    | .ret r => .ok (.ret r)
def evI (fi : En → Res (List D)) (ρ : Frm) : Res (List D) := match fi (purE ρ) with
  | .exc _ _ => .bad
  | r => r
def sFor (t : Tg) (fi : En → Res (List D)) (F : Frm → Res Fl) : Frm → Res Fl := fun ρ => (evI fi ρ).bind fun ds => forF t F ds ρ
/-- over ints that are read off own objects too (range) -/
def evR (fi : En → Res (List D)) (ρ : Frm) : Res (List D) := match fi (frzE ρ) with
  | .exc _ _ => .bad
  | .ok ds => if ds.all flat0 then .ok ds else .bad
  | r => r
def sForR (t : Tg) (fi : En → Res (List D)) (F : Frm → Res Fl) : Frm → Res Fl := fun ρ => (evR fi ρ).bind fun ds => forF t F ds ρ
section
variable {TS : TabList} {X : Cx} {W : WX} {tg iter : Expr} {fi : En → Res (List D)} {F : Frm → Res Fl} {body : List Stmt} {pos : Pos} {t : Tg}
theorem tgF_exc {d : D} {ρ : Frm} {c : Str} {fs : List (Str × D)} : ¬ tgF t d ρ = .exc c fs := by
  intro h
  cases t with
  | nm i => cases h
  | tp is =>
    cases d <;> try cases h
    have h : (if (by assumption : List D).length = is.length then Res.ok (setsF is (by assumption) ρ) else .bad) = .exc c fs := h
    split at h <;> cases h
theorem for_core {J : It} {ds : List D} {G_0 H_0 G H G1 : Hp} {ρ : Frm} {σ : L2.St} {fp : Nat → List Addr} {Dn : Ends} (hb : DSs TS X body F) (tk : Takes X W)
    (wk : ∀ (G2 H2 : Hp), Ex G1 G2 → Ok0 TS G2 H2 → (∀ (i : Nat) (x : D), ds[i]? = some x → J.go i H2 ∧ ∀ v H', J.yld i H2 v H' → ∃ G', Gr TS G2 H2 G' H' ∧ Rp X.K G' v x) ∧ J.stop ds.length H2)
    (s : SI TS X.K G_0 H_0 ρ σ G H fp) (e1 : Ex G1 G) (p : PostS TS X W G_0 H_0 G Dn (forF t F ds ρ)) :
    ∃ Wd : Nat → Nat → L2.St → Hp → Prop, (∃ m, Wd 0 m σ H) ∧ ∀ i m σ H, Wd i m σ H →
      (J.stop i H ∧ Dn.nx σ H) ∨ (J.go i H ∧ ∃ N : L2.St → Hp → Prop, (∀ σ' H', N σ' H' → ∃ m', m' < m ∧ Wd (i + 1) m' σ' H') ∧ ∀ x H', J.yld i H x H' → gTg X.K t x σ H' fun σ2 H2 => wpSs X body { Dn with nx := N, ct := N, bk := Dn.nx } σ2 H2) := by
  refine ⟨fun i m σ H => m = ds.length - i ∧ i ≤ ds.length ∧ ∃ ρ G fp, SI TS X.K G_0 H_0 ρ σ G H fp ∧ Ex G1 G ∧ PostS TS X W G_0 H_0 G Dn (forF t F (ds.drop i) ρ), ⟨ds.length, by simp, Nat.zero_le _, ρ, G, fp, s, e1, by rw [List.drop_zero]; exact p⟩, ?_⟩
  rintro i m σ H ⟨rfl, hi, ρ, G, fp, s, e1, p⟩
  obtain ⟨w1, w2⟩ := wk G H e1 s.gr.ok
  by_cases hlt : i < ds.length
  · have hx : ds[i]? = some ds[i] := List.getElem?_eq_getElem hlt
    have hd : ds.drop i = ds[i] :: ds.drop (i + 1) := List.drop_eq_getElem_cons hlt
    rw [hd] at p
    obtain ⟨h1, h2⟩ := w1 i _ hx
    refine .inr ⟨h1, fun σ' H' => ∃ ρ' G' fp', SI TS X.K G_0 H_0 ρ' σ' G' H' fp' ∧ Ex G1 G' ∧ PostS TS X W G_0 H_0 G' Dn (forF t F (ds.drop (i + 1)) ρ'), fun σ' H' h => ⟨ds.length - (i + 1), by omega, rfl, hlt, h⟩, fun v H' y => ?_⟩
    obtain ⟨G', g, r⟩ := h2 v H' y
    have p : PostS TS X W G_0 H_0 G Dn ((tgF t ds[i] ρ).bind fun ρ1 => (F ρ1).bind fun fl => match fl with
      | .next ρ2 => forF t F (ds.drop (i + 1)) ρ2
      | .cont ρ2 => forF t F (ds.drop (i + 1)) ρ2
      | .brk ρ2 => .ok (.next ρ2)
      | .ret r => .ok (.ret r)) := p
    cases ht : tgF t ds[i] ρ with
    | ok ρ1 =>
      rw [ht] at p
      refine gTgF_ok r (s.grow g) ht fun σ2 s2 => ?_
      refine hb W ρ1 σ2 G_0 H_0 G' H' fp _ tk s2 ?_
      have p : PostS TS X W G_0 H_0 G Dn ((F ρ1).bind fun fl => match fl with
        | .next ρ2 => forF t F (ds.drop (i + 1)) ρ2
        | .cont ρ2 => forF t F (ds.drop (i + 1)) ρ2
        | .brk ρ2 => .ok (.next ρ2)
        | .ret r => .ok (.ret r)) := p
      cases hf : F ρ1 with
      | ok fl =>
        rw [hf] at p
        cases fl with
        | next ρ2 => exact fun σ3 G3 H3 fp3 e3 s3 => ⟨ρ2, G3, fp3, s3, (e1.trans g.g).trans e3, p.shift (g.g.trans e3)⟩
        | cont ρ2 => exact fun σ3 G3 H3 fp3 e3 s3 => ⟨ρ2, G3, fp3, s3, (e1.trans g.g).trans e3, p.shift (g.g.trans e3)⟩
        | brk ρ2 => exact fun σ3 G3 H3 fp3 e3 s3 => p σ3 G3 H3 fp3 (g.g.trans e3) s3
        | ret r =>
          cases r with
          | val d => exact p
          | own ds => exact p
          | ownU dss => exact p
      | exc c fs =>
        rw [hf] at p
        exact p
      | bad =>
        rw [hf] at p
        exact p.elim
    | exc c fs => exact (tgF_exc ht).elim
    | bad =>
      rw [ht] at p
      exact p.elim
  · have e : i = ds.length := by omega
    subst e
    rw [List.drop_length] at p
    exact .inl ⟨w2, p σ G H fp (Ex.refl G) s⟩
theorem ds_for (C : CtE X) (hp : PassesOwn (model X.prog X.w) X.A X.env X.xe) (hi : DI TS X tg iter fi) (hg : PG X tg (gTg X.K t)) (hb : DSs TS X body F) (hs : ∀ x, foldedSetIterable iter X.env x = pure x := by intro _; rfl) : DSt TS X (.For tg iter body [] pos) (sFor t fi F) := by
  refine ⟨?_⟩
  intro W ρ σ G_0 H_0 G H fp Dn tk s p
  refine wpSt_of (ps_for hp C.calm (pi_wp X tg iter) hg (pss_wp X body) hs) ?_
  have p : PostS TS X W G_0 H_0 G Dn ((evI fi ρ).bind fun ds => forF t F ds ρ) := p
  refine hi W (purE ρ) σ G H _ tk s.pure s.gr.ok ?_
  unfold evI at p
  cases hf : fi (purE ρ) with
  | ok ds =>
    rw [hf] at p
    exact fun J G1 H1 g wk => for_core hb tk wk (s.grow g) (Ex.refl G1) (p.shift g.g)
  | exc c fs =>
    rw [hf] at p
    exact p.elim
  | bad =>
    rw [hf] at p
    exact p.elim
/-- a walk that hangs on ints alone stands over any data -/
structure FlatW (TS : TabList) (X : Cx) (tg iter : Expr) (fi : En → Res (List D)) : Prop where
  run : ∀ (W : WX) (ρ : En) (σ : L2.St) (G H : Hp) (R : It → Hp → Prop), Takes X W → RpE TS X.K G H ρ σ → Ok0 TS G H → PostG (fun _ _ _ (J : It) ds => ∀ G, Walker TS X.K J ds G) TS X W σ G H (fi ρ) R → wpIt X tg iter σ H R
instance {TS : TabList} {X : Cx} {tg iter : Expr} {fi : En → Res (List D)} : CoeFun (FlatW TS X tg iter fi) fun _ => ∀ (W : WX) (ρ : En) (σ : L2.St) (G H : Hp) (R : It → Hp → Prop), Takes X W → RpE TS X.K G H ρ σ → Ok0 TS G H → PostG (fun _ _ _ (J : It) ds => ∀ G, Walker TS X.K J ds G) TS X W σ G H (fi ρ) R → wpIt X tg iter σ H R := ⟨FlatW.run⟩
theorem ds_forR (C : CtE X) (hp : PassesOwn (model X.prog X.w) X.A X.env X.xe) (hi : FlatW TS X tg iter fi) (hg : PG X tg (gTg X.K t)) (hb : DSs TS X body F) (hs : ∀ x, foldedSetIterable iter X.env x = pure x := by intro _; rfl) : DSt TS X (.For tg iter body [] pos) (sForR t fi F) := by
  refine ⟨?_⟩
  intro W ρ σ G_0 H_0 G H fp Dn tk s p
  refine wpSt_of (ps_for hp C.calm (pi_wp X tg iter) hg (pss_wp X body) hs) ?_
  have p : PostS TS X W G_0 H_0 G Dn ((evR fi ρ).bind fun ds => forF t F ds ρ) := p
  refine hi W (frzE ρ) σ (noTb H) H _ tk s.frz (ok_noTb s.gr.ok) ?_
  unfold evR at p
  cases hf : fi (frzE ρ) with
  | ok ds =>
    rw [hf] at p
    have p : PostS TS X W G_0 H_0 G Dn ((if ds.all flat0 then Res.ok ds else .bad).bind fun ds => forF t F ds ρ) := p
    split at p
    · exact fun J G1 H1 g wk => for_core hb tk (wk G) (s.grow (gr_noTb s.gr.ok g)) (Ex.refl G) p
    · exact p.elim
  | exc c fs =>
    rw [hf] at p
    exact p.elim
  | bad =>
    rw [hf] at p
    exact p.elim
end
section
variable {TS : TabList} {X : Cx} {tg a b : Expr} {fa fb : En → Res D} {pos : Pos}
theorem back_FW {K : PySem.W.Frag} : Back (fun _ _ _ (J : It) (ds : List D) => ∀ G, Walker TS K J ds G) := fun _ _ _ _ _ _ _ h => h
theorem fw_range1 {p : Pos} (hg : Gl X "range") (hm : X.mg "range" = none) (ha : DE TS X a fa) (hs : starEach [a] X.env = [(false, eval a X.env)] := by rfl) : FlatW TS X tg (.Call (.Name "range" p) [a] [] pos) (iF r1D fa) := by
  refine ⟨?_⟩
  intro W ρ σ G H R tk re ok post
  refine wpIt_of (pi_range1 hg hm (pa_cons (pe_wp X a) pa_nil hs) hs) ?_
  refine bindP (wp := fun R => wpE X a σ H R) back_FW (fun Q' p => ha W ρ σ G H Q' tk re ok p) post fun v x G1 H1 _ g1 rx p => ?_
  unfold r1D at p
  split at p
  · cases rx
    split at p
    · rename_i h
      exact ⟨_, rfl, h.1, h.2, p _ G1 H1 (Gr.refl g1.ok) fun _ => walker_range⟩
    · exact p.elim
  · exact p.elim
theorem fw_range2 {p : Pos} (hg : Gl X "range") (hm : X.mg "range" = none) (ha : DE TS X a fa) (hb : DE TS X b fb) (hs : starEach [a, b] X.env = [(false, eval a X.env), (false, eval b X.env)] := by rfl) (hs2 : starEach [b] X.env = [(false, eval b X.env)] := by rfl) :
    FlatW TS X tg (.Call (.Name "range" p) [a, b] [] pos) (iF2 r2D fa fb) := by
  refine ⟨?_⟩
  intro W ρ σ G H R tk re ok post
  refine wpIt_of (pi_range2 hg hm (pa_cons (pe_wp X a) (pa_cons (pe_wp X b) pa_nil hs2) (by rw [hs, hs2])) hs hs2) ?_
  refine bindP (wp := fun R => wpE X a σ H R) back_FW (fun Q' p => ha W ρ σ G H Q' tk re ok p) post fun v x G1 H1 _ g1 rx p => ?_
  refine bindP (wp := fun R => wpE X b σ H1 R) back_FW (fun Q' q => hb W ρ σ G1 H1 Q' tk (re.mono g1) g1.ok q) p fun u y G2 H2 _ g2 ry p => ?_
  unfold r2D at p
  split at p
  · cases rx
    cases ry
    split at p
    · rename_i h
      exact ⟨_, _, rfl, h, p _ G2 H2 (Gr.refl g2.ok) fun _ => walker_range⟩
    · exact p.elim
  · exact p.elim
end

/-! ### comprehensions -/
def noX {α : Type} : Res α → Res α
  | .exc _ _ => .bad
  | r => r
def wipeE (ρ : En) : List Nat → En
  | [] => ρ
  | v :: vs => (wipeE ρ vs).set v none
def compF (t : Tg) (tt : En → Res Bool) (fe : En → Res D) (ρ : En) : List D → Res (List D)
  | [] => .ok []
  | d :: ds => (tgE t d ρ).bind fun ρ1 => (noX (tt ρ1)).bind fun b => if b then (noX (fe ρ1)).bind fun y => (compF t tt fe ρ ds).bind fun ys => .ok (y :: ys) else compF t tt fe ρ ds
def lComp (own : List Nat) (t : Tg) (fi : En → Res (List D)) (tt : En → Res Bool) (fe : En → Res D) : En → Res (List D) := fun ρ => (fi ρ).bind fun ds => okL ds.length (compF t tt fe (wipeE ρ own) ds)
def wpTs (X : Cx) (ifs : List Expr) : TT := fun σ H Q => ∀ (pins : List (Addr × Obj)) (s : Shared), Inv X pins σ H s → wpAny (model X.prog X.w) X.A (forIn ifs true fun c r => if r = true then do let ok ← isTrue c X.env (eval c X.env); pure (ForInStep.yield ok) else pure (ForInStep.yield r)) (TP X pins σ Q) X.xe s
theorem pts_wp (X : Cx) (ifs : List Expr) : PTs X ifs (wpTs X ifs) := ⟨fun pins s _ _ _ I h => h pins s I⟩
theorem wpTs_of {X : Cx} {ifs : List Expr} {t : TT} {σ : L2.St} {H : Hp} {Q : Bool → Hp → Prop} (h : PTs X ifs t) (q : t σ H Q) : wpTs X ifs σ H Q := fun pins s I => h.run pins s σ H Q I q
structure DTs (TS : TabList) (X : Cx) (ifs : List Expr) (f : En → Res Bool) : Prop where
  run : ∀ (W : WX) (ρ : En) (σ : L2.St) (G H : Hp) (Q : Bool → Hp → Prop), Takes X W → RpE TS X.K G H ρ σ → Ok0 TS G H → PostG RelT TS X W σ G H (f ρ) Q → wpTs X ifs σ H Q
instance {TS : TabList} {X : Cx} {ifs : List Expr} {f : En → Res Bool} : CoeFun (DTs TS X ifs f) fun _ => ∀ (W : WX) (ρ : En) (σ : L2.St) (G H : Hp) (Q : Bool → Hp → Prop), Takes X W → RpE TS X.K G H ρ σ → Ok0 TS G H → PostG RelT TS X W σ G H (f ρ) Q → wpTs X ifs σ H Q := ⟨DTs.run⟩
def tYesR : En → Res Bool := fun _ => .ok true
theorem dts_nil {TS : TabList} {X : Cx} : DTs TS X [] tYesR := .mk fun W ρ σ G H Q tk re ok post => wpTs_of pts_nil (post true G H (Gr.refl ok) rfl)
theorem dts_one {TS : TabList} {X : Cx} {c : Expr} {ft : En → Res Bool} (h : DT TS X c ft) : DTs TS X [c] ft := .mk fun W ρ σ G H Q tk re ok post => wpTs_of (pts_one (pt_wp X c)) (h W ρ σ G H Q tk re ok post)
section
variable {TS : TabList} {X : Cx} {tg iter elt : Expr} {fi : En → Res (List D)} {tt : En → Res Bool} {fe : En → Res D} {ifs : List Expr} {pos : Pos} {t : Tg} {scope : Scope} {own : List (Str × Nat)}
theorem RpE.wipe {K : PySem.W.Frag} {G H : Hp} {ρ : En} {σ : L2.St} (h : RpE TS K G H ρ σ) : ∀ vs : List Nat, RpE TS K G H (wipeE ρ vs) (wipe σ vs)
  | [] => h
  | v :: vs => by
    have ih := h.wipe vs
    refine ⟨by show ((wipeE ρ vs).set v none).length ≤ ((L2.wipe σ vs).set v none).length; simpa using ih.len, fun i d e z => ?_, fun i ds e => ?_, fun i ds e => ?_⟩
    · rcases set_at e with ⟨_, e, _⟩ | ⟨ne, e⟩
      · cases e
      · obtain ⟨w, h1, h2⟩ := ih.at' i d e z
        refine ⟨w, ?_, h2⟩
        show ((L2.wipe σ vs).set v none)[i]? = _
        rw [List.getElem?_set_ne ne]
        exact h1
    · rcases set_at e with ⟨_, e, _⟩ | ⟨ne, e⟩
      · cases e
      · obtain ⟨a, ws, h1, h2⟩ := ih.lo i ds e
        refine ⟨a, ws, ?_, h2⟩
        show ((L2.wipe σ vs).set v none)[i]? = _
        rw [List.getElem?_set_ne ne]
        exact h1
    · rcases set_at e with ⟨_, e, _⟩ | ⟨ne, e⟩
      · cases e
      · obtain ⟨a, h1, h2⟩ := ih.st i ds e
        refine ⟨a, ?_, h2⟩
        show ((L2.wipe σ vs).set v none)[i]? = _
        rw [List.getElem?_set_ne ne]
        exact h1
theorem tgE_exc {d : D} {ρ : En} {c : Str} {fs : List (Str × D)} : ¬ tgE t d ρ = .exc c fs := by
  intro h
  cases t with
  | nm i => cases h
  | tp is =>
    cases d <;> try cases h
    have h : (if (by assumption : List D).length = is.length then Res.ok (setsE is (by assumption) ρ) else .bad) = .exc c fs := h
    split at h <;> cases h
theorem noX_exc {α : Type} {r : Res α} {c : Str} {fs : List (Str × D)} : ¬ noX r = .exc c fs := by
  cases r <;> intro h <;> cases h
theorem compF_exc {ρ : En} {c : Str} {fs : List (Str × D)} : ∀ ds : List D, ¬ compF t tt fe ρ ds = .exc c fs
  | [], h => by cases h
  | d :: ds, h => by
    have h : ((tgE t d ρ).bind fun ρ1 => (noX (tt ρ1)).bind fun b => if b then (noX (fe ρ1)).bind fun y => (compF t tt fe ρ ds).bind fun ys => .ok (y :: ys) else compF t tt fe ρ ds) = .exc c fs := h
    cases h1 : tgE t d ρ with
    | exc c' fs' => exact tgE_exc h1
    | bad => rw [h1] at h; cases h
    | ok ρ1 =>
      rw [h1] at h
      have h : ((noX (tt ρ1)).bind fun b => if b then (noX (fe ρ1)).bind fun y => (compF t tt fe ρ ds).bind fun ys => .ok (y :: ys) else compF t tt fe ρ ds) = .exc c fs := h
      cases h2 : noX (tt ρ1) with
      | exc c' fs' => exact noX_exc h2
      | bad => rw [h2] at h; cases h
      | ok b =>
        rw [h2] at h
        cases b with
        | false => exact compF_exc ds h
        | true =>
          have h : ((noX (fe ρ1)).bind fun y => (compF t tt fe ρ ds).bind fun ys => .ok (y :: ys)) = .exc c fs := h
          cases h3 : noX (fe ρ1) with
          | exc c' fs' => exact noX_exc h3
          | bad => rw [h3] at h; cases h
          | ok y =>
            rw [h3] at h
            have h : ((compF t tt fe ρ ds).bind fun ys => .ok (y :: ys)) = .exc c fs := h
            cases h4 : compF t tt fe ρ ds with
            | exc c' fs' => exact compF_exc ds h4
            | bad => rw [h4] at h; cases h
            | ok ys => rw [h4] at h; cases h
/-- the words of a block, whatever its own context -/
def blkT (X : Cx) (scope : Scope) (ifs : List Expr) : TT := fun σ H Q => ∀ (s : Shared) (H0 : Hp) (C : Addr) (cl : List (Str × Addr)) (fp : List Addr), wpTs (X.blk s H0 scope (compEnvC scope cl C X.env) fp) ifs σ H Q
def blkE (X : Cx) (scope : Scope) (elt : Expr) : TE := fun σ H Q => ∀ (s : Shared) (H0 : Hp) (C : Addr) (cl : List (Str × Addr)) (fp : List Addr), wpE (X.blk s H0 scope (compEnvC scope cl C X.env) fp) elt σ H Q
theorem comp_core {W : WX} {ρ : En} {σ : L2.St} {G H : Hp} {Q : VK} (hi : DI TS X tg iter fi) (ho : ∀ i ∈ t.all, i ∈ own.map (·.2))
    (ht : ∀ (s : Shared) (H : Hp) (C : Addr) (cl : List (Str × Addr)) (fp : List Addr), DTs TS (X.blk s H scope (compEnvC scope cl C X.env) fp) ifs tt)
    (he : ∀ (s : Shared) (H : Hp) (C : Addr) (cl : List (Str × Addr)) (fp : List Addr), DE TS (X.blk s H scope (compEnvC scope cl C X.env) fp) elt fe)
    (tk : Takes X W) (re : RpE TS X.K G H ρ σ) (ok : Ok0 TS G H) (post : PostG (RelL X.K) TS X W σ G H (lComp (own.map (·.2)) t fi tt fe ρ) Q) :
    tLc (wpIt X tg iter) (gTg X.K t) (blkT X scope ifs) (blkE X scope elt) (own.map (·.2)) σ H Q := by
  refine bindP (wp := fun R => wpIt X tg iter σ H R) back_L (fun Q' p => hi W ρ σ G H Q' tk re ok p) post fun J ds G1 H1 _ g1 wk p => ?_
  obtain ⟨hlim, p⟩ := okL_post p
  intro Dl hD
  have reW : ∀ {G' H' : Hp}, Gr TS G1 H1 G' H' → RpE TS X.K G' H' (wipeE ρ (own.map (·.2))) (wipe σ (own.map (·.2))) := fun e => ((re.mono g1).mono e).wipe _
  generalize hρ : wipeE ρ (own.map (·.2)) = ρ0 at p reW
  cases ht0 : compF t tt fe ρ0 ds with
  | exc c fs => exact (compF_exc ds ht0).elim
  | bad =>
    rw [ht0] at p
    exact p.elim
  | ok total =>
    rw [ht0] at p
    refine ⟨fun i m H => m = ds.length - i ∧ i ≤ ds.length ∧ ∃ Gi vs pre rest, Gr TS G1 H1 Gi H ∧ Gi Dl = none ∧ H Dl = some (.lst vs) ∧ Rps X.K Gi vs pre ∧ compF t tt fe ρ0 (ds.drop i) = .ok rest ∧ pre ++ rest = total ∧ pre.length ≤ i,
      ⟨ds.length, by simp, Nat.zero_le _, G1, [], [], total, Gr.own g1.ok hD, fresh_back g1.ok.le hD, upd_same, .nil, by rw [List.drop_zero]; exact ht0, rfl, Nat.le_refl _⟩, ?_⟩
    rintro i m H2 ⟨rfl, hi2, Gi, vs, pre, rest, gi, gD, hDl, rv, hr, ht2, hlen⟩
    obtain ⟨w1, w2⟩ := wk Gi H2 gi.g gi.ok
    by_cases hlt : i < ds.length
    · have hx : ds[i]? = some ds[i] := List.getElem?_eq_getElem hlt
      have hd : ds.drop i = ds[i] :: ds.drop (i + 1) := List.drop_eq_getElem_cons hlt
      rw [hd] at hr
      obtain ⟨h1, h2⟩ := w1 i _ hx
      refine .inr ⟨h1, fun H' => ∃ Gi vs pre rest, Gr TS G1 H1 Gi H' ∧ Gi Dl = none ∧ H' Dl = some (.lst vs) ∧ Rps X.K Gi vs pre ∧ compF t tt fe ρ0 (ds.drop (i + 1)) = .ok rest ∧ pre ++ rest = total ∧ pre.length ≤ i + 1, fun H' h => ⟨ds.length - (i + 1), by omega, rfl, hlt, h⟩, fun v H' y => ?_⟩
      obtain ⟨G', g, r⟩ := h2 v H' y
      have hr : ((tgE t ds[i] ρ0).bind fun ρ1 => (noX (tt ρ1)).bind fun b => if b then (noX (fe ρ1)).bind fun y => (compF t tt fe ρ0 (ds.drop (i + 1))).bind fun ys => .ok (y :: ys) else compF t tt fe ρ0 (ds.drop (i + 1))) = .ok rest := hr
      cases e1 : tgE t ds[i] ρ0 with
      | exc c fs => exact (tgE_exc e1).elim
      | bad => rw [e1] at hr; cases hr
      | ok ρ1 =>
        rw [e1] at hr
        have hr : ((noX (tt ρ1)).bind fun b => if b then (noX (fe ρ1)).bind fun y => (compF t tt fe ρ0 (ds.drop (i + 1))).bind fun ys => .ok (y :: ys) else compF t tt fe ρ0 (ds.drop (i + 1))) = .ok rest := hr
        refine gTg_ok g.ok ho r (reW (gi.trans g)) e1 fun σ2 re2 hw => ?_
        rw [wipe_wipe] at hw
        refine ⟨hw, fun s' H0' C' cl' fp' => ?_⟩
        refine ht s' H0' C' cl' fp' (fun _ _ _ _ => False) ρ1 σ2 G' H' _ takes0 re2 g.ok ?_
        cases e2 : tt ρ1 with
        | exc c fs => rw [e2] at hr; cases hr
        | bad => rw [e2] at hr; cases hr
        | ok b =>
          rw [e2] at hr
          intro b' G3 H3 g3 eb
          subst eb
          have keep : ∀ {Ga Ha Gb Hb : Hp}, Gr TS Ga Ha Gb Hb → Ga Dl = none → Ha Dl = some (.lst vs) → Gb Dl = none ∧ Hb Dl = some (.lst vs) := fun {Ga Ha Gb Hb} gg z1 z2 => by
            refine ⟨?_, gg.h.at z2 rfl⟩
            cases q : Gb Dl with
            | none => rfl
            | some w =>
              rcases gg.nw Dl (by rw [q]; simp) with c | c
              · exact absurd z1 c
              · rw [z2] at c
                cases c
          obtain ⟨k1, k2⟩ := keep g gD hDl
          obtain ⟨k3, k4⟩ := keep g3 k1 k2
          cases b' with
          | false =>
            refine iteF ⟨G3, vs, pre, rest, (gi.trans g).trans g3, k3, k4, (rv.mono g.g).mono g3.g, hr, ht2, Nat.le_succ_of_le hlen⟩
          | true =>
            refine iteT fun s' H0' C' cl' fp' => ?_
            have hr : ((noX (fe ρ1)).bind fun y => (compF t tt fe ρ0 (ds.drop (i + 1))).bind fun ys => .ok (y :: ys)) = .ok rest := hr
            refine he s' H0' C' cl' fp' (fun _ _ _ _ => False) ρ1 σ2 G3 H3 _ takes0 (re2.mono g3) g3.ok ?_
            cases e3 : fe ρ1 with
            | exc c fs => rw [e3] at hr; cases hr
            | bad => rw [e3] at hr; cases hr
            | ok yd =>
              rw [e3] at hr
              have hr : ((compF t tt fe ρ0 (ds.drop (i + 1))).bind fun ys => Res.ok (yd :: ys)) = .ok rest := hr
              cases e4 : compF t tt fe ρ0 (ds.drop (i + 1)) with
              | exc c fs => rw [e4] at hr; cases hr
              | bad => rw [e4] at hr; cases hr
              | ok ys =>
                rw [e4] at hr
                cases hr
                intro yv G4 H4 g4 ry
                obtain ⟨k5, k6⟩ := keep g4 k3 k4
                refine ⟨vs, k6, ?_, G4, vs ++ [yv], pre ++ [yd], ys, ?_, k5, upd_same, (((rv.mono g.g).mono g3.g).mono g4.g).app (.cons ry .nil), rfl, by rw [List.append_assoc]; exact ht2, by rw [List.length_append]; exact Nat.succ_le_succ hlen⟩
                · rw [rv.len]
                  refine Nat.lt_of_le_of_lt (Nat.le_trans hlen (Nat.le_trans hi2 hlim)) (by decide)
                · have gg := ((gi.trans g).trans g3).trans g4
                  refine ⟨gg.g, ⟨fun b w hb n => ?_, fun b hb => gg.h.old b (upd_none hb)⟩, gg.nw, ⟨fun b w hb => ?_, fun P hP => ?_, gg.ok.nt⟩⟩
                  · rw [upd_ne (ne_of_none hb hD)]
                    exact gg.h.same b w hb n
                  · rw [upd_ne (ne_of_none hb k5)]
                    exact gg.ok.le b w hb
                  · obtain ⟨ps, q1, q2⟩ := gg.ok.tb P hP
                    refine ⟨ps, ?_, q2⟩
                    rw [upd_ne fun e => ?_]
                    · exact q1
                    · rw [e, k6] at q1
                      cases q1
    · have e : i = ds.length := by omega
      subst e
      rw [List.drop_length] at hr
      cases hr
      rw [List.append_nil] at ht2
      subst ht2
      exact .inl ⟨w2, p _ Gi H2 gi ⟨Dl, vs, rfl, hD, gD, hDl, rv⟩⟩
theorem dl_comp (C : CtE X) (hi : DI TS X tg iter fi) (ok : BlkOk X.N X.env.scope scope own) (ho : ∀ i ∈ t.all, i ∈ own.map (·.2))
    (hg : ∀ (s : Shared) (H : Hp) (C : Addr) (cl : List (Str × Addr)) (fp : List Addr), PG (X.blk s H scope (compEnvC scope cl C X.env) fp) tg (gTg X.K t))
    (ht : ∀ (s : Shared) (H : Hp) (C : Addr) (cl : List (Str × Addr)) (fp : List Addr), DTs TS (X.blk s H scope (compEnvC scope cl C X.env) fp) ifs tt)
    (he : ∀ (s : Shared) (H : Hp) (C : Addr) (cl : List (Str × Addr)) (fp : List Addr), DE TS (X.blk s H scope (compEnvC scope cl C X.env) fp) elt fe) (hs : ∀ x, foldedSetIterable iter X.env x = pure x := by intro _; rfl) :
    DL TS X (.ListComp elt [⟨tg, iter, ifs, 0⟩] scope pos) (lComp (own.map (·.2)) t fi tt fe) := by
  refine ⟨?_⟩
  intro W ρ σ G H Q tk re k post
  exact wpE_of (pe_lc C.calm C.nd (pi_wp X tg iter) ok hg (fun s H C cl fp => ⟨fun pins s1 σ H1 Q I h => h s H C cl fp pins s1 I⟩) (fun s H C cl fp => ⟨fun pins s1 σ H1 Q I h => h s H C cl fp pins s1 I⟩) hs) (comp_core (elt := elt) hi ho ht he tk re k post)
theorem ds_setLc (i : Nat) {y : Str} {py spos : Pos} (C : CtE X) (hi : DI TS X tg iter fi) (ok : BlkOk X.N X.env.scope scope own) (ho : ∀ i ∈ t.all, i ∈ own.map (·.2))
    (hg : ∀ (s : Shared) (H : Hp) (C : Addr) (cl : List (Str × Addr)) (fp : List Addr), PG (X.blk s H scope (compEnvC scope cl C X.env) fp) tg (gTg X.K t))
    (ht : ∀ (s : Shared) (H : Hp) (C : Addr) (cl : List (Str × Addr)) (fp : List Addr), DTs TS (X.blk s H scope (compEnvC scope cl C X.env) fp) ifs tt)
    (he : ∀ (s : Shared) (H : Hp) (C : Addr) (cl : List (Str × Addr)) (fp : List Addr), DE TS (X.blk s H scope (compEnvC scope cl C X.env) fp) elt fe)
    (hsw : swapsWith (.ListComp elt [⟨tg, iter, ifs, 0⟩] scope pos) (some (.Name y py)) spos.line X.env = pure true) (hy : X.N[i]? = some y := by rfl) (hyl : X.env.scope.names.lookup y = some .local := by rfl) (hs : ∀ x, foldedSetIterable iter X.env x = pure x := by intro _; rfl) :
    DSt TS X (.Assign [.Name y py] (.ListComp elt [⟨tg, iter, ifs, 0⟩] scope pos) spos) (sSetL i (lComp (own.map (·.2)) t fi tt fe)) := by
  refine ⟨?_⟩
  intro W ρ σ G_0 H_0 G H fp D tk s p
  refine wpSt_of (ps_setLc (tt := blkT X scope ifs) (te := blkE X scope elt) C.calm C.nd hy hyl hsw (pi_wp X tg iter) ok hg (fun s H C cl fp => ⟨fun pins s1 σ H1 Q I h => h s H C cl fp pins s1 I⟩) (fun s H C cl fp => ⟨fun pins s1 σ H1 Q I h => h s H C cl fp pins s1 I⟩) hs) ?_
  refine evL_gen (wp := fun σ H R => tLc (wpIt X tg iter) (gTg X.K t) (blkT X scope ifs) (blkE X scope elt) (own.map (·.2)) σ H R) (fun W ρ σ G H Q tk re k post => comp_core hi ho ht he tk re k post) tk s p fun v ds G1 H1 g r p => ?_
  obtain ⟨fp', s'⟩ := s.storeL (i := i) g r
  exact p _ G1 H1 fp' g.g s'

/-! ### in, any, all, join, split -/
def orD : D → Res D := fun d => .ok d
end
section
variable {TS : TabList} {X : Cx} {a b : Expr} {fa fb : En → Res D} {es : List Expr} {fr : En → Res (List D)} {pos : Pos}
theorem eqV_eqv {K : PySem.W.Frag} {G : Hp} {v u : V} {x y : D} (rx : Rp K G v x) (ry : Rp K G u y) (h1 : flat0 x = true) (h2 : flat0 y = true) : flatV v = true ∧ eqV v u = PyData.eqv x y := by
  cases rx <;> cases ry <;> simp [flat0] at h1 h2 <;> refine ⟨rfl, ?_⟩ <;> simp only [PyData.eqv, eqV] <;> first | rfl | (rw [Bool.eq_iff_iff]; simp) | skip
theorem inV_any {K : PySem.W.Frag} {G : Hp} {v : V} {x : D} (rx : Rp K G v x) (h1 : flat0 x = true) : ∀ {us : List V} {ds : List D}, Rps K G us ds → ds.all flat0 = true → us.all flatV = true ∧ inV v us = ds.any fun z => PyData.eqv z x
  | _, _, .nil, _ => ⟨rfl, rfl⟩
  | _, _, .cons r rs, h => by
    rw [List.all_cons, Bool.and_eq_true] at h
    obtain ⟨a1, a2⟩ := eqV_eqv r rx h.1 h1
    obtain ⟨b1, b2⟩ := inV_any rx h1 rs h.2
    refine ⟨by rw [List.all_cons, a1, b1]; rfl, ?_⟩
    show (eqV _ v || inV v _) = _
    rw [a2, b2, List.any_cons]
theorem od_in (C : CtE X) : OpD TS X (compareOp .In) inD := by
  refine ⟨?_⟩
  intro W σ v u x y G H Q ok rx ry p
  cases y with
  | str w =>
    cases x with
    | str z =>
      have p : PostG (RelE X.K) TS X W σ G H (if z.length = 1 then .ok (.bool (decide (z.cps.getD 0 0 ∈ w.cps.toList))) else .bad) Q := p
      cases rx
      cases ry
      split at p
      · rename_i h
        refine wpO_of op_in_sign ⟨z.cps.getD 0 0, w, ?_, rfl, fin1 ok p (.bl _)⟩
        congr 1
        exact one_sign h
      · exact p.elim
    | _ => exact p.elim
  | list ds =>
    have p : PostG (RelE X.K) TS X W σ G H (if okd x && okd (.list ds) then .ok (.bool (ds.any fun z => PyData.eqv z x)) else .bad) Q := by
      cases x <;> exact p
    split at p
    · rename_i h
      rw [Bool.and_eq_true] at h
      exact wpO_of (op_inD (by have := C.un; omega)) ⟨x, ds, (rx.mono ok.le).okdp h.1, (ry.mono ok.le).okdp h.2, okd_shaped h.1, okd_shaped h.2, fin1 ok p (.bl _)⟩
    · exact p.elim
  | tuple ds =>
    have p : PostG (RelE X.K) TS X W σ G H (if flat0 x && ds.all flat0 then .ok (.bool (ds.any fun z => PyData.eqv z x)) else .bad) Q := by
      cases x <;> exact p
    split at p
    · rename_i h
      rw [Bool.and_eq_true] at h
      obtain ⟨q, xs, rfl, hq, r⟩ := ry.tup_inv
      obtain ⟨a1, a2⟩ := inV_any rx h.1 r h.2
      have a0 : flatV v = true := (eqV_eqv rx rx h.1 h.1).1
      refine wpO_of op_in_seq ⟨q, xs, rfl, .inr (ex_t ok.le hq), a0, a1, ?_⟩
      rw [a2]
      exact fin1 ok p (.bl _)
    · exact p.elim
  | _ => cases x <;> exact p.elim
end
end Pyr

set_option Elab.async false
set_option autoImplicit false
set_option linter.all false
set_option maxRecDepth 100000
set_option maxHeartbeats 1000000
namespace Pyr
open PySem PySem.Spec PyProof.Rows L2 Evl

def strsD : List D → Option (List Str)
  | [] => some []
  | .str x :: ds => (strsD ds).map (x :: ·)
  | _ => none
def joinS (a : Str) (ds : List D) : Res D := match strsD ds with
  | some ys => if (ys.map (·.length)).sum + ys.length * a.length ≤ LIM then .ok (.str (Txt.join a ys)) else .bad
  | none => .bad
def joinD (a : Str) : D → Res D
  | .list ds => joinS a ds
  | .tuple ds => joinS a ds
  | _ => .bad
def eJoin (fa fb : En → Res D) : En → Res D := fun ρ => (fa ρ).bind fun x => match x with
  | .str a => (fb ρ).bind (joinD a)
  | _ => .bad
def splitD (a : Str) : D → Res (List D)
  | .str b => if b.length ≠ 0 ∧ a.length + 2 ≤ LIM then .ok ((Txt.split a b).map .str) else .bad
  | _ => .bad
def lSplit (fa fb : En → Res D) : En → Res (List D) := fun ρ => (fa ρ).bind fun x => match x with
  | .str a => (fb ρ).bind (splitD a)
  | _ => .bad
def boolsD : List D → Option (List Bool)
  | [] => some []
  | .bool x :: ds => (boolsD ds).map (x :: ·)
  | _ => none
def anyD : D → Res D
  | .list ds => match boolsD ds with
    | some bs => .ok (.bool (bs.any id))
    | none => .bad
  | _ => .bad
def allD : D → Res D
  | .list ds => match boolsD ds with
    | some bs => .ok (.bool (bs.all id))
    | none => .bad
  | _ => .bad
section
variable {TS : TabList} {X : Cx} {a b : Expr} {fa fb : En → Res D} {es : List Expr} {fr : En → Res (List D)} {pos : Pos}
theorem strs_of {K : PySem.W.Frag} {G : Hp} : ∀ {vs : List V} {ds : List D} {ys : List Str}, Rps K G vs ds → strsD ds = some ys → vs = ys.map V.str
  | _, _, _, .nil, h => by cases h; rfl
  | _, _, _, .cons (d := d) r rs, h => by
    cases r <;> try cases h
    rename_i x
    have h : ((strsD _).map (x :: ·)) = some _ := h
    obtain ⟨zs, h1, rfl⟩ := Option.map_eq_some_iff.mp h
    rw [strs_of rs h1]
    rfl
theorem bools_of {K : PySem.W.Frag} {G : Hp} : ∀ {vs : List V} {ds : List D} {ys : List Bool}, Rps K G vs ds → boolsD ds = some ys → vs = ys.map V.bl
  | _, _, _, .nil, h => by cases h; rfl
  | _, _, _, .cons (d := d) r rs, h => by
    cases r <;> try cases h
    rename_i x
    have h : ((boolsD _).map (x :: ·)) = some _ := h
    obtain ⟨zs, h1, rfl⟩ := Option.map_eq_some_iff.mp h
    rw [bools_of rs h1]
    rfl
theorem join_line {n : Nat} (h : n ≤ LIM) : n ≤ 16777216 := Nat.le_trans h (by decide)
theorem de_join {apos : Pos} (ha : DE TS X a fa) (hb : DE TS X b fb) (hs : starEach [b] X.env = [(false, eval b X.env)] := by rfl) (hbase : attributeBase a "join" X.env (eval a X.env) = eval a X.env := by rfl) (hline : (apos.endLine == pos.line) = true := by rfl) :
    DE TS X (.Call (.Attribute a "join" apos) [b] [] pos) (eJoin fa fb) := by
  refine ⟨?_⟩
  intro W ρ σ G H Q tk re ok post
  refine wpE_of (pe_join (pe_wp X a) (pe_wp X b) hs hbase hline) ?_
  refine bindP (wp := fun R => wpE X a σ H R) back_E (fun Q' p => ha W ρ σ G H Q' tk re ok p) post fun v x G1 H1 _ g1 rx p => ?_
  cases rx with
  | str z =>
    refine ⟨⟨z, rfl⟩, ?_⟩
    refine bindP (wp := fun R => wpE X b σ H1 R) back_E (fun Q' q => hb W ρ σ G1 H1 Q' tk (re.mono g1) g1.ok q) p fun u y G2 H2 _ g2 ry p => ?_
    cases y with
    | list ds =>
      obtain ⟨q, xs, rfl, hq, r⟩ := ry.list_inv
      have p : PostG (RelE X.K) TS X W σ G2 H2 (match strsD ds with
        | some ys => if (ys.map (·.length)).sum + ys.length * z.length ≤ LIM then .ok (.str (Txt.join z ys)) else .bad
        | none => .bad) Q := p
      cases hs : strsD ds with
      | none => rw [hs] at p; exact p.elim
      | some ys =>
        rw [hs] at p
        have e := strs_of r hs
        subst e
        have p : PostG (RelE X.K) TS X W σ G2 H2 (if (ys.map (·.length)).sum + ys.length * z.length ≤ LIM then .ok (.str (Txt.join z ys)) else .bad) Q := p
        split at p
        · rename_i hl
          exact ⟨z, q, ys, rfl, rfl, .inl (ex_l g2.ok.le hq), join_line hl, fin1 g2.ok p (.str _)⟩
        · exact p.elim
    | tuple ds =>
      obtain ⟨q, xs, rfl, hq, r⟩ := ry.tup_inv
      have p : PostG (RelE X.K) TS X W σ G2 H2 (match strsD ds with
        | some ys => if (ys.map (·.length)).sum + ys.length * z.length ≤ LIM then .ok (.str (Txt.join z ys)) else .bad
        | none => .bad) Q := p
      cases hs : strsD ds with
      | none => rw [hs] at p; exact p.elim
      | some ys =>
        rw [hs] at p
        have e := strs_of r hs
        subst e
        have p : PostG (RelE X.K) TS X W σ G2 H2 (if (ys.map (·.length)).sum + ys.length * z.length ≤ LIM then .ok (.str (Txt.join z ys)) else .bad) Q := p
        split at p
        · rename_i hl
          exact ⟨z, q, ys, rfl, rfl, .inr (ex_t g2.ok.le hq), join_line hl, fin1 g2.ok p (.str _)⟩
        · exact p.elim
    | _ => exact p.elim
  | _ => exact p.elim
theorem rps_strs {K : PySem.W.Frag} {G : Hp} : ∀ ys : List Str, Rps K G (ys.map V.str) (ys.map .str)
  | [] => .nil
  | y :: ys => .cons (.str y) (rps_strs ys)
theorem dl_split {apos : Pos} (ha : DE TS X a fa) (hb : DE TS X b fb) (hs : starEach [b] X.env = [(false, eval b X.env)] := by rfl) (hbase : attributeBase a "split" X.env (eval a X.env) = eval a X.env := by rfl) (hline : (apos.endLine == pos.line) = true := by rfl) :
    DL TS X (.Call (.Attribute a "split" apos) [b] [] pos) (lSplit fa fb) := by
  refine ⟨?_⟩
  intro W ρ σ G H Q tk re ok post
  refine wpE_of (pe_split (pe_wp X a) (pe_wp X b) hs hbase hline) ?_
  refine bindP (wp := fun R => wpE X a σ H R) back_L (fun Q' p => ha W ρ σ G H Q' tk re ok p) post fun v x G1 H1 _ g1 rx p => ?_
  cases rx with
  | str z =>
    refine ⟨⟨z, rfl⟩, ?_⟩
    refine bindP (wp := fun R => wpE X b σ H1 R) back_L (fun Q' q => hb W ρ σ G1 H1 Q' tk (re.mono g1) g1.ok q) p fun u y G2 H2 _ g2 ry p => ?_
    cases ry with
    | str w =>
      have p : PostG (RelL X.K) TS X W σ G2 H2 (if w.length ≠ 0 ∧ z.length + 2 ≤ LIM then .ok ((Txt.split z w).map .str) else .bad) Q := p
      split at p
      · rename_i h
        refine ⟨z, w, rfl, rfl, by simpa using h.1, lim_line h.2, fun q hq => ?_⟩
        exact p _ _ _ (Gr.own (o := .lst ((Txt.split z w).map V.str)) g2.ok hq) ⟨q, _, rfl, hq, fresh_back g2.ok.le hq, upd_same, rps_strs _⟩
      · exact p.elim
    | _ => exact p.elim
  | _ => exact p.elim
theorem cd_any (C : CtE X) : CallD TS X (.builtin "any") (oneD anyD) := by
  refine ⟨?_⟩
  intro W σ vs ds G H Q ok rs p
  unfold oneD at p
  split at p
  · obtain ⟨v, rfl, r⟩ := rs.one_inv
    unfold anyD at p
    split at p
    · obtain ⟨q, xs, rfl, hq, r⟩ := r.list_inv
      split at p
      · rename_i bs hb
        have e := bools_of r hb
        subst e
        exact wpC_of (cr_any C.calm) ⟨q, bs, rfl, ex_l ok.le hq, fin1 ok p (.bl _)⟩
      · exact p.elim
    · exact p.elim
  · exact p.elim
theorem cd_all (C : CtE X) : CallD TS X (.builtin "all") (oneD allD) := by
  refine ⟨?_⟩
  intro W σ vs ds G H Q ok rs p
  unfold oneD at p
  split at p
  · obtain ⟨v, rfl, r⟩ := rs.one_inv
    unfold allD at p
    split at p
    · obtain ⟨q, xs, rfl, hq, r⟩ := r.list_inv
      split at p
      · rename_i bs hb
        have e := bools_of r hb
        subst e
        exact wpC_of (cr_all C.calm) ⟨q, bs, rfl, ex_l ok.le hq, fin1 ok p (.bl _)⟩
      · exact p.elim
    · exact p.elim
  · exact p.elim
theorem od_notIn (C : CtE X) : OpD TS X (compareOp .NotIn) notInD := by
  refine ⟨?_⟩
  intro W σ v u x y G H Q ok rx ry p
  cases y with
  | str w =>
    cases x with
    | str z =>
      have p : PostG (RelE X.K) TS X W σ G H ((if z.length = 1 then Res.ok (PyData.bool (decide (z.cps.getD 0 0 ∈ w.cps.toList))) else .bad).bind fun b => match b with
        | .bool b => .ok (.bool (!b))
        | _ => .bad) Q := p
      cases rx
      cases ry
      split at p
      · rename_i h
        refine wpO_of op_notIn_sign ⟨z.cps.getD 0 0, w, ?_, rfl, ?_⟩
        · congr 1
          exact one_sign h
        · exact fin1 ok p (.bl _)
      · exact p.elim
    | _ => exact p.elim
  | list ds =>
    have p : PostG (RelE X.K) TS X W σ G H ((if okd x && okd (.list ds) then Res.ok (PyData.bool (ds.any fun z => PyData.eqv z x)) else .bad).bind fun b => match b with
        | .bool b => .ok (.bool (!b))
        | _ => .bad) Q := by
      cases x <;> exact p
    split at p
    · rename_i h
      rw [Bool.and_eq_true] at h
      exact wpO_of (op_notInD (by have := C.un; omega)) ⟨x, ds, (rx.mono ok.le).okdp h.1, (ry.mono ok.le).okdp h.2, okd_shaped h.1, okd_shaped h.2, fin1 ok p (.bl _)⟩
    · exact p.elim
  | tuple ds =>
    have p : PostG (RelE X.K) TS X W σ G H ((if flat0 x && ds.all flat0 then Res.ok (PyData.bool (ds.any fun z => PyData.eqv z x)) else .bad).bind fun b => match b with
        | .bool b => .ok (.bool (!b))
        | _ => .bad) Q := by
      cases x <;> exact p
    split at p
    · rename_i h
      rw [Bool.and_eq_true] at h
      obtain ⟨q, xs, rfl, hq, r⟩ := ry.tup_inv
      obtain ⟨a1, a2⟩ := inV_any rx h.1 r h.2
      have a0 : flatV v = true := (eqV_eqv rx rx h.1 h.1).1
      refine wpO_of op_notIn_seq ⟨q, xs, rfl, .inr (ex_t ok.le hq), a0, a1, ?_⟩
      have e : (if true = true then !inV v xs else inV v xs) = !(ds.any fun z => PyData.eqv z x) := by rw [if_pos rfl, a2]
      rw [e]
      exact fin1 ok p (.bl _)
    · exact p.elim
  | _ => cases x <;> exact p.elim
end
end Pyr

set_option Elab.async false
set_option autoImplicit false
set_option linter.all false
set_option maxRecDepth 100000
set_option maxHeartbeats 1000000
namespace Pyr
open PySem PySem.Spec PyProof.Rows L2 Evl

theorem CtE.blk {X : Cx} {s : Shared} {H : Hp} {scope : Scope} {cenv : Env} {fp : List Addr} (C : CtE X) : CtE (X.blk s H scope cenv fp) := ⟨C.calm, C.nd, C.un⟩
theorem bt_len : bootBuiltins "len" = some (.builtin "len") := by decide +kernel
theorem bt_any : bootBuiltins "any" = some (.builtin "any") := by decide +kernel
theorem bt_all : bootBuiltins "all" = some (.builtin "all") := by decide +kernel
theorem bt_sorted : bootBuiltins "sorted" = some (.builtin "sorted") := by decide +kernel
theorem bt_int : bootBuiltins "int" = some (.type "int") := by decide +kernel
theorem bt_str : bootBuiltins "str" = some (.type "str") := by decide +kernel
theorem bt_bool : bootBuiltins "bool" = some (.type "bool") := by decide +kernel
theorem bt_list : bootBuiltins "list" = some (.type "list") := by decide +kernel
theorem bt_tuple : bootBuiltins "tuple" = some (.type "tuple") := by decide +kernel
theorem bt_dict : bootBuiltins "dict" = some (.type "dict") := by decide +kernel

/-- a def of the text, known by its name -/
def Dfn (K : PySem.W.Frag) (mg : Str → Option Value) (x : Str) (st : Stmt) (ps : List Str) : Prop := ∃ f fd, L2.Fun K x x st f fd ∧ mg x = some (.ref f) ∧ Binds K fd ps []
/-- what the head tells of it -/
def DefIn (K : PySem.W.Frag) (x : Str) (st : Stmt) : Prop := ∃ (f : Addr) (oc : Value) (od an : Option Addr) (sl : Array (Option Value)) (kV doc pm cd ct : Value),
  PySem.W.nsIn K mainGlobals x = some (some (.ref f)) ∧ K.lookup f = some ⟨oc, od, .func (PySem.W.fnOf x x (defArgs st) (defBody st) (defScope st) .none kV doc pm an cd ct), sl⟩ ∧ PySem.W.codeIn K cd x = true ∧ PySem.W.keepIn K (.ref f) = true
def BindOk (x : Str) (st : Stmt) (ps : List Str) : Prop := ∀ (kV doc pm : Value) (an : Option Addr) (cdv ct : Value) (us : List Value), us.length = ps.length → bindArgs (PySem.W.fnOf x x (defArgs st) (defBody st) (defScope st) .none kV doc pm an cdv ct) ⟨us, []⟩ = pure (ps.zip us)
section
variable {K : PySem.W.Frag} {mg : Str → Option Value} {h : Heap} {x : Str} {st : Stmt} {ps : List Str}
theorem DefIn.dfn (d : DefIn K x st) (X : K.In h) (G : h.Ns mainGlobals mg) (b : BindOk x st ps) : Dfn K mg x st ps := by
  obtain ⟨f, oc, od, an, sl, kV, doc, pm, cd, ct, h1, h2, h3, h4⟩ := d
  have F := fun_mk h2 h3 h4
  exact ⟨f, _, F, PySem.W.mg_of X G h1, F.binds b⟩
end
theorem fnok_mk {TS : TabList} {P : Program} {w : World} {K : PySem.W.Frag} {mg : Str → Option Value} {base : Heap} {x qual : Str} {st : Stmt} {f : Addr} {fd : FuncData} {N ps : List Str} {k : Nat} {F : Frm → Res Fl} (Fn : L2.Fun K x qual st f fd) (S : FnScope N ps (defScope st))
    (body : ∀ (cdv : Value) (A : Around) (outer : List Env) (s : Shared) (H : Hp) (E : XK), Room k (A.deeper (envOfC qual (defScope st) s.heap.objs.size f cdv)) → DSs TS (cxOf (L2.CX P w) P w K mg base N qual (defScope st) f cdv A outer s H E) (defBody st) F) :
    FnOk P w K mg base (L2.CX P w) (k + 1) f fd ps (spD TS K mg (defM ps.length N.length F)) := by
  refine Fun.okX Fn S (fun vs H Q E h => ?_) (fun cdv A outer s H vs Q E hr h => ?_)
  · obtain ⟨G, ds, r, ok, p⟩ := h
    unfold defM at p
    split at p
    · rename_i e
      rw [r.len, e]
    · exact p.elim
  · obtain ⟨G, ds, r, ok, p⟩ := h
    unfold defM at p
    split at p
    · refine ⟨_, pss_wp _ _, body cdv A outer s H E hr (fun cls d _ H => E cls d H) (frm0 N.length ds) (L2.start N vs) G H G H (fun _ => []) _ (takes_of rfl rfl rfl rfl) (SI.start ok r) ?_⟩
      cases hf : F (frm0 N.length ds) with
      | ok fl =>
        rw [hf] at p
        cases fl with
        | next ρ => exact fun σ' G' H' fp' _ s' => p .non G' H' s'.gr .non
        | ret rv =>
          cases rv with
          | val d => exact p
          | own ds => exact p
          | ownU dss => exact p
        | brk ρ => exact p.elim
        | cont ρ => exact p.elim
      | exc c fs =>
        rw [hf] at p
        exact fun C d _ G' H' m g r => p C d G' H' m g r
      | bad =>
        rw [hf] at p
        exact p.elim
    · exact p.elim
theorem known_of {TS : TabList} {P : Program} {w : World} {K : PySem.W.Frag} {mg : Str → Option Value} {base : Heap} {x : Str} {st : Stmt} {N ps : List Str} {k : Nat} {F : Frm → Res Fl} (d : Dfn K mg x st ps) (S : FnScope N ps (defScope st))
    (body : ∀ (f : Addr) (cdv : Value) (A : Around) (outer : List Env) (s : Shared) (H : Hp) (E : XK), Room k (A.deeper (envOfC x (defScope st) s.heap.objs.size f cdv)) → DSs TS (cxOf (L2.CX P w) P w K mg base N x (defScope st) f cdv A outer s H E) (defBody st) F) :
    Known TS P w K mg base (k + 1) x ps (defM ps.length N.length F) := by
  obtain ⟨f, fd, F1, hm, hb⟩ := d
  exact ⟨f, fd, fnok_mk F1 S (body f), hm, F1.kp, hb⟩

/-! ### the law's end -/
def spLaw (K : PySem.W.Frag) : Sp := fun vs H Q _ => ∃ (a : Addr) (ns : List Int), vs = [.ref a] ∧ SqL K H a (ns.map V.int) ∧ ns.length ≤ 63 ∧ Only H ∧ ∀ H', Q (.bl true) H'
def scriptD (ns : List Int) : D := .list (ns.map .int)
theorem rps_ints {K : PySem.W.Frag} {G : Hp} : ∀ ns : List Int, Rps K G (ns.map V.int) (ns.map .int)
  | [] => .nil
  | n :: ns => .cons (.int n) (rps_ints ns)
theorem law_imp {P : Program} {w : World} {K : PySem.W.Frag} {mg : Str → Option Value} {base : Heap} {k : Nat} {f : Addr} {fd : FuncData} {ps : List Str} {m : List D → Res RV} (F : FnOk P w K mg base (L2.CX P w) k f fd ps (spD ⟨[], P, w⟩ K mg m))
    (hm : ∀ ns : List Int, ns.length ≤ 63 → m [scriptD ns] = .ok (.val (.bool true))) : FnOk P w K mg base (L2.CX P w) k f fd ps (spLaw K) := by
  refine F.imp fun vs H Q E h => ?_
  obtain ⟨a, ns, rfl, hs, hl, ho, q⟩ := h
  refine ⟨H, [scriptD ns], .cons (.lst hs (rps_ints ns)) .nil, ⟨Ex.refl H, fun P hP => (by cases hP), fun b o hb => ?_⟩, ?_⟩
  · rcases ho b with z | ⟨ob, xs, z⟩
    · rw [z] at hb
      cases hb
    · rw [z] at hb
      cases hb
      rfl
  · rw [hm ns hl]
    intro v G' H' _ r
    cases r
    exact q H'
theorem law_end {l : PySem.W.OpenLaw} {k : Nat} {q : Program} {loose : List Str} {XP : (Str → Option Value) → Heap → Prop} {YP : World → Heap → Prop} {d : DefRec} {K : Params → PySem.W.Frag} {x : Str}
    (hn : l.most = some 63) (hdf : d.params.defaults = []) (hr : Room k callerA) (hY : ∀ (w : World) (h : Heap), YP w h → (K w.params).In h)
    (F : ∀ (w : World) (mg : Str → Option Value) (fa : Addr) (h : Heap), (K w.params).In h → h.Ns mainGlobals mg → mg d.name = some (.ref fa) →
      ∃ fd : FuncData, (∀ (s : Shared) (u : Value), BindsTo s fd ⟨[u], []⟩ [(x, u)]) ∧ ∀ base : Heap, (K w.params).In base → base.Ns mainGlobals mg → FnOk l.prog w (K w.params) mg base (L2.CX l.prog w) k fa fd [x] (spLaw (K w.params))) :
    PySem.W.WalkO q loose XP YP l.row.toRowW d [] (fun f vs => PySem.call f vs) :=
  L2.walk_of (l := l) (n := 63) (k := k) (x := x) (CX := fun w => L2.CX l.prog w) (sp := fun w => spLaw (K w.params)) hn (by decide) hdf hr hY F (fun w H a ns hl ho hS => ⟨a, ns, rfl, hS, hl, ho, fun _ => rfl⟩) fun w H s e s' h => by
    obtain ⟨_, _, _, _, _, _, _, _, _, _, _, _, z⟩ := h
    exact z
end Pyr

set_option Elab.async false
set_option autoImplicit false
set_option linter.all false
set_option maxRecDepth 100000
set_option maxHeartbeats 1000000
namespace Pyr
open PySem PySem.Spec PyProof.Rows L2 Evl
theorem law_fin {TS : TabList} {P : Program} {w : World} {K : PySem.W.Frag} {mg : Str → Option Value} {h : Heap} {st : Stmt} {fa : Addr} {x : Str} {k : Nat} {m : List D → Res RV} (X : K.In h) (G : h.Ns mainGlobals mg) (hfa : mg "law" = some (.ref fa)) (d : DefIn K "law" st) (b : BindOk "law" st [x])
    (F : ∀ (base : Heap) (f : Addr) (fd : FuncData), L2.Fun K "law" "law" st f fd → FnOk P w K mg base (L2.CX P w) k f fd [x] (spD ⟨[], P, w⟩ K mg m)) (hm : ∀ ns : List Int, ns.length ≤ 63 → m [scriptD ns] = .ok (.val (.bool true))) :
    ∃ fd : FuncData, (∀ (s : Shared) (u : Value), BindsTo s fd ⟨[u], []⟩ [(x, u)]) ∧ ∀ base : Heap, K.In base → base.Ns mainGlobals mg → FnOk P w K mg base (L2.CX P w) k fa fd [x] (spLaw K) := by
  obtain ⟨f, oc, od, an, sl, kV, doc, pm, cd, ct, h1, h2, h3, h4⟩ := d
  have e := hfa.symm.trans (PySem.W.mg_of X G h1)
  cases e
  exact ⟨_, fun s u => .of_eq (b kV doc pm an cd ct [u] rfl), fun base _ _ => law_imp (F base fa _ (fun_mk h2 h3 h4)) hm⟩
end Pyr

set_option Elab.async false
set_option autoImplicit false
set_option linter.all false
set_option maxRecDepth 100000
set_option maxHeartbeats 1000000
namespace Pyr
open PySem PySem.Spec PyProof.Rows L2 Evl
/-! ### running the functions -/
theorem seq_ok {F1 F2 : Frm → Res Fl} {ρ ρ' : Frm} (h : F1 ρ = .ok (.next ρ')) : sSeq F1 F2 ρ = F2 ρ' := by unfold sSeq; rw [h]; rfl
theorem seq_ret {F1 F2 : Frm → Res Fl} {ρ : Frm} {r : RV} (h : F1 ρ = .ok (.ret r)) : sSeq F1 F2 ρ = .ok (.ret r) := by unfold sSeq; rw [h]; rfl
theorem bind_ok {α β : Type} {a : α} {k : α → Res β} : (Res.ok a).bind k = k a := rfl
theorem okL_ok {α : Type} {n : Nat} {r : Res α} (h : n ≤ LIM) : okL n r = r := if_pos h
theorem evP_ok {fe : En → Res D} {ρ : Frm} {d : D} (h : fe (purE ρ) = .ok d) : evP fe ρ = .ok d := by unfold evP; rw [h]
theorem evL_ok {fe : En → Res (List D)} {ρ : Frm} {d : List D} (h : fe (purE ρ) = .ok d) : evL fe ρ = .ok d := by unfold evL; rw [h]
theorem evP_frz {fe : En → Res D} {ρ : Frm} {d : D} (h : fe (purE ρ) = .bad) (h2 : fe (frzE ρ) = .ok d) (hd : flat0 d = true) : evP fe ρ = .ok d := by unfold evP; rw [h, h2]; show (if flat0 d = true then Res.ok d else .bad) = _; rw [if_pos hd]
theorem evT_ok {ft : En → Res Bool} {ρ : Frm} {b : Bool} (h : ft (frzE ρ) = .ok b) : evT ft ρ = .ok b := by unfold evT; rw [h]; rfl
theorem set_ok {i : Nat} {fe : En → Res D} {ρ : Frm} {d : D} (h : fe (purE ρ) = .ok d) : sSet i fe ρ = .ok (.next (ρ.set i (.val d))) := by unfold sSet; rw [evP_ok h]; rfl
theorem setL_ok {i : Nat} {fe : En → Res (List D)} {ρ : Frm} {d : List D} (h : fe (purE ρ) = .ok d) : sSetL i fe ρ = .ok (.next (ρ.set i (.own (.lst d)))) := by unfold sSetL; rw [evL_ok h]; rfl
theorem if_ok {ft : En → Res Bool} {F1 F2 : Frm → Res Fl} {ρ : Frm} {b : Bool} (h : ft (frzE ρ) = .ok b) : sIf ft F1 F2 ρ = if b then F1 ρ else F2 ρ := by unfold sIf; rw [evT_ok h]; rfl
theorem ret_ok {fe : En → Res D} {ρ : Frm} {d : D} (h : fe (purE ρ) = .ok d) : sRet fe ρ = .ok (.ret (.val d)) := by unfold sRet; rw [evP_ok h]; rfl
theorem ret_frz {fe : En → Res D} {ρ : Frm} {d : D} (h : fe (purE ρ) = .bad) (h2 : fe (frzE ρ) = .ok d) (hd : flat0 d = true) : sRet fe ρ = .ok (.ret (.val d)) := by unfold sRet; rw [evP_frz h h2 hd]; rfl
theorem retO_ok {i : Nat} {ρ : Frm} {ds : List D} (h : ρ[i]? = some (Sl.own (.lst ds))) : sRetO i ρ = .ok (.ret (.own ds)) := by unfold sRetO; rw [h]
theorem app_ok {i : Nat} {fe : En → Res D} {ρ : Frm} {ds : List D} {d : D} (h : ρ[i]? = some (Sl.own (.lst ds))) (he : fe (purE ρ) = .ok d) (hl : ds.length + 1 ≤ LIM) : sApp i fe ρ = .ok (.next (ρ.set i (.own (.lst (ds ++ [d]))))) := by unfold sApp; rw [h]; show (evP fe ρ).bind _ = _; rw [evP_ok he]; exact okL_ok hl
theorem for_ok {t : Tg} {fi : En → Res (List D)} {F : Frm → Res Fl} {ρ : Frm} {ds : List D} (h : fi (purE ρ) = .ok ds) : sFor t fi F ρ = forF t F ds ρ := by unfold sFor evI; rw [h]; rfl
theorem forR_ok {t : Tg} {fi : En → Res (List D)} {F : Frm → Res Fl} {ρ : Frm} {ds : List D} (h : fi (frzE ρ) = .ok ds) (hf : ds.all flat0 = true) : sForR t fi F ρ = forF t F ds ρ := by unfold sForR evR; rw [h]; show (if ds.all flat0 = true then Res.ok ds else .bad).bind _ = _; rw [if_pos hf]; rfl
theorem upto_flat : ∀ (n : Nat) (lo : Int), (upto lo n).all flat0 = true
  | 0, _ => rfl
  | n + 1, lo => upto_flat n (lo + 1)
theorem defM_eq {np n : Nat} {F : Frm → Res Fl} {ds : List D} (h : ds.length = np) : defM np n F ds = outR (F (frm0 n ds)) := if_pos h
/-- a comprehension over data whose element is an own function of it -/
theorem compF_map {t : Tg} {tt : En → Res Bool} {fe : En → Res D} {ρ : En} {g : D → D} : ∀ ds : List D, (∀ d ∈ ds, ∃ ρ1, tgE t d ρ = .ok ρ1 ∧ tt ρ1 = .ok true ∧ fe ρ1 = .ok (g d)) → compF t tt fe ρ ds = .ok (ds.map g)
  | [], _ => rfl
  | d :: ds, h => by
    obtain ⟨ρ1, h1, h2, h3⟩ := h d List.mem_cons_self
    show (tgE t d ρ).bind _ = _
    rw [h1]
    show (noX (tt ρ1)).bind _ = _
    rw [h2]
    show (noX (fe ρ1)).bind _ = _
    rw [h3]
    show (compF t tt fe ρ ds).bind _ = _
    rw [compF_map ds fun d hd => h d (List.mem_cons_of_mem _ hd)]
    rfl
theorem strs_map : ∀ ys : List Str, strsD (ys.map .str) = some ys
  | [] => rfl
  | y :: ys => by show (strsD (ys.map .str)).map _ = _; rw [strs_map ys]; rfl
theorem cut_front {α : Type} (xs : List α) (n : Nat) : cutG xs none (some (n : Int)) = xs.take n := by
  unfold cutG
  rw [HT.sIx_none, HT.sIx_nat, List.drop_zero, Nat.sub_zero]
  by_cases h : n ≤ xs.length
  · rw [Nat.min_eq_left h]
  · rw [Nat.min_eq_right (by omega), List.take_of_length_le (by omega), List.take_of_length_le (by omega)]
theorem eqv_str (a b : Str) : PyData.eqv (.str a) (.str b) = decide (a = b) := by
  simp only [PyData.eqv]
  rw [Bool.eq_iff_iff]
  simp
theorem eqv_int (a b : Int) : PyData.eqv (.int a) (.int b) = decide (a = b) := by
  simp only [PyData.eqv]
  rw [Bool.eq_iff_iff]
  simp
theorem eqv_okd {d : D} (h : okd d = true) : PyData.eqv d d = true := PySem.SeqAt.eqv_refl d (okD_flat d 60 h).2.1
theorem eqD_self {d : D} (h : okd d = true) : eqD d d = .ok (.bool true) := by
  unfold eqD
  rw [h, eqv_okd h]
  simp
theorem eqD_str (a b : Str) : eqD (.str a) (.str b) = .ok (.bool (decide (a = b))) := by
  unfold eqD
  rw [eqv_str]
  rfl
theorem eqD_int (a b : Int) : eqD (.int a) (.int b) = .ok (.bool (decide (a = b))) := by
  unfold eqD
  rw [eqv_int]
  rfl
theorem neD_int (a b : Int) : neD (.int a) (.int b) = .ok (.bool (!decide (a = b))) := by
  unfold neD
  rw [eqv_int]
  rfl
theorem neD_str (a b : Str) : neD (.str a) (.str b) = .ok (.bool (!decide (a = b))) := by
  unfold neD
  rw [eqv_str]
  rfl
theorem strOk_app {a b : Str} (ha : PyData.strOk a = true) (hb : PyData.strOk b = true) : PyData.strOk (a ++ b) = true := by
  unfold PyData.strOk at *
  rw [Str.cps_append, Array.all_append, ha, hb]
  rfl
theorem strOk_join {a : Str} (ha : PyData.strOk a = true) : ∀ ys : List Str, (∀ y ∈ ys, PyData.strOk y = true) → PyData.strOk (Str.join a ys) = true
  | [], _ => by simp [PyData.strOk, Str.join, Str.empty]
  | [y], h => h y List.mem_cons_self
  | y :: z :: r, h => strOk_app (strOk_app (h y List.mem_cons_self) ha) (strOk_join ha (z :: r) fun u hu => h u (List.mem_cons_of_mem _ hu))
theorem joinD_ok {a : Str} {ys : List Str} (h : (ys.map (·.length)).sum + ys.length * a.length ≤ LIM) : joinD a (.list (ys.map .str)) = .ok (.str (Str.join a ys)) := by
  show joinS a (ys.map .str) = _
  unfold joinS
  rw [strs_map]
  show (if (ys.map (·.length)).sum + ys.length * a.length ≤ LIM then Res.ok (PyData.str (Txt.join a ys)) else .bad) = _
  rw [if_pos h, TL.join_eq]
theorem sum_le {n : Nat} : ∀ xs : List Nat, (∀ x ∈ xs, x ≤ n) → xs.sum ≤ xs.length * n
  | [], _ => Nat.zero_le _
  | x :: xs, h => by
    rw [List.sum_cons, List.length_cons, Nat.succ_mul]
    have := h x List.mem_cons_self
    have := sum_le xs fun y hy => h y (List.mem_cons_of_mem _ hy)
    omega
theorem okDs_all {n : Nat} : ∀ ds : List D, (∀ d ∈ ds, okD n d = true) → okDs n ds = true
  | [], _ => by simp [okDs]
  | d :: ds, h => by
    rw [okDs, h d List.mem_cons_self, okDs_all ds fun z hz => h z (List.mem_cons_of_mem _ hz)]
    rfl
theorem r1D_nat {n : Nat} (h : n ≤ LIM) : r1D (.int n) = .ok (upto 0 n) := by
  have h : n ≤ 100000 := h
  have e : -(2 ^ 62) ≤ (n : Int) ∧ (n : Int) < 2 ^ 62 := by omega
  simp only [r1D, if_pos e, Int.toNat_natCast]
theorem at_str {x : Str} {k : Nat} {c : Nat} (h : x.cps.toList[k]? = some c) (hl : x.length ≤ LIM) : atD (.str x) (.int (k : Int)) = .ok (.str ⟨#[c]⟩) := by
  unfold atD
  simp only [okL_ok hl, atI_nat h]
theorem at_list {xs : List D} {k : Nat} {d : D} (h : xs[k]? = some d) : atD (.list xs) (.int (k : Int)) = .ok d := by
  unfold atD
  simp only [atI_nat h]
theorem at_tup {xs : List D} {k : Nat} {d : D} (h : xs[k]? = some d) : atD (.tuple xs) (.int (k : Int)) = .ok d := by
  unfold atD
  simp only [atI_nat h]
theorem forF_next {t : Tg} {F : Frm → Res Fl} {d : D} {ds : List D} {ρ ρ1 ρ2 : Frm} (h : tgF t d ρ = .ok ρ1) (hb : F ρ1 = .ok (.next ρ2)) : forF t F (d :: ds) ρ = forF t F ds ρ2 := by
  show (tgF t d ρ).bind _ = _
  rw [h]
  show (F ρ1).bind _ = _
  rw [hb]
  rfl
theorem forF_cont {t : Tg} {F : Frm → Res Fl} {d : D} {ds : List D} {ρ ρ1 ρ2 : Frm} (h : tgF t d ρ = .ok ρ1) (hb : F ρ1 = .ok (.cont ρ2)) : forF t F (d :: ds) ρ = forF t F ds ρ2 := by
  show (tgF t d ρ).bind _ = _
  rw [h]
  show (F ρ1).bind _ = _
  rw [hb]
  rfl
theorem forF_brk {t : Tg} {F : Frm → Res Fl} {d : D} {ds : List D} {ρ ρ1 ρ2 : Frm} (h : tgF t d ρ = .ok ρ1) (hb : F ρ1 = .ok (.brk ρ2)) : forF t F (d :: ds) ρ = .ok (.next ρ2) := by
  show (tgF t d ρ).bind _ = _
  rw [h]
  show (F ρ1).bind _ = _
  rw [hb]
  rfl
theorem forF_ret {t : Tg} {F : Frm → Res Fl} {d : D} {ds : List D} {ρ ρ1 : Frm} {r : RV} (h : tgF t d ρ = .ok ρ1) (hb : F ρ1 = .ok (.ret r)) : forF t F (d :: ds) ρ = .ok (.ret r) := by
  show (tgF t d ρ).bind _ = _
  rw [h]
  show (F ρ1).bind _ = _
  rw [hb]
  rfl
end Pyr

set_option Elab.async false
set_option autoImplicit false
set_option linter.all false
set_option maxRecDepth 100000
set_option maxHeartbeats 2000000
namespace Pyr
open PySem PySem.Spec PyProof.Rows L2 Evl

/-! ### any, all of a generator expression -/
abbrev gxX (X : Cx) (A' : Around) (s : Shared) (H : Hp) (cenv : Env) (fp : List Addr) (pn : List (Addr × Obj)) : Cx :=
  { X with A := A', s_0 := s, H_0 := H, env := cenv, outer := X.stack, stack := cenv :: X.stack, ex := fp, fn := fun _ => false, pn := pn, xe := fun _ _ => False }
abbrev gxE (X : Cx) (scope : Scope) (cl : List (Str × Addr)) (C : Addr) (code : Value) : Env := genEnv scope cl C code builtinsNs X.env
theorem inv_gens {X : Cx} {pins : List (Addr × Obj)} {σ : L2.St} {H : Hp} {s : Shared} (I : Inv X pins σ H s) {s' : Shared} (hh : s'.heap = s.heap) (ho : s'.os = s.os) (hb : AllBare s'.gens) : Inv X pins σ H s' := by
  obtain ⟨h, g, d, t, o⟩ := s'
  have hh : h = s.heap := hh
  have ho : o = s.os := ho
  subst hh
  subst ho
  exact ⟨I.ok, I.os, hb, I.base, I.loc, I.cell, I.free, I.freeC, I.pin, I.hok, I.len⟩
/-! what a generator expression's frame sees of the def's -/
/-- the captured cells: exactly the def's -/
structure Caught (scope : Scope) (old new : List (Str × Addr)) : Prop where
  old : ∀ y c, new.lookup y = some c → old.lookup y = some c
  has : ∀ y, scope.names.lookup y = some .free → ∃ c, new.lookup y = some c
section
variable {X : Cx} {pins : List (Addr × Obj)} {σ : L2.St} {H : Hp} {s : Shared} {scope : Scope} {own : List (Str × Nat)} {fp : List Addr}
theorem all_caught (I : Inv X pins σ H s) (ok : BlkOk X.N X.env.scope scope own) (y : Str × NameKind) (hy : y ∈ scope.names) (e : y.2 = .free) : ∃ c, X.env.cells.lookup y.1 = some c :=
  I.ok.has y.1 (ok.free y hy e)
theorem caught_of (I : Inv X pins σ H s) (ok : BlkOk X.N X.env.scope scope own) : Caught scope X.env.cells (cloFrom X.env.cells scope.names []) where
  old := fun y c e => (cloFrom_mem (PySem.mem_of_lookup e)).elim (fun z => nomatch z) fun ⟨m, e2⟩ => by
    obtain ⟨c', hc⟩ := all_caught I ok (y, .free) m rfl
    rw [e2, hc, Option.getD_some]
  has := fun y e => mem_lookup (cloFrom_has (acc := []) (PySem.mem_of_lookup e))
/-- a name of the scope that stands in a slot that is not wiped is captured -/
theorem free_of (ok : BlkOk X.N X.env.scope scope own) (hN : X.N.Nodup) {i : Nat} {y : Str} {v : V} (hi : X.N[i]? = some y) (hv : (wipe σ (own.map (·.2)))[i]? = some (some v)) (h : Vis scope y) : scope.names.lookup y = some .free := by
  have key : ∀ k, scope.names.lookup y = some k → k = .local ∨ k = .cell → False := fun k e hk => (ok.own (y, k) (PySem.mem_of_lookup e) hk).elim
    (fun m => by
      obtain ⟨q, q1, q2⟩ := List.mem_map.mp m
      have q3 : X.N[q.2]? = some y := (ok.ix q q1).trans (congrArg some q2)
      exact (wipe_some hv).2 (nodup_ix hN q3 hi ▸ List.mem_map_of_mem q1))
    fun m => m (List.mem_of_getElem? hi)
  exact h.elim (fun e => (key _ e (.inl rfl)).elim) fun h => h.elim (fun e => (key _ e (.inr rfl)).elim) id
theorem gx_ok {A' : Around} {cenv : Env} {pn : List (Addr × Obj)} (I : Inv X pins σ H s) (ok : BlkOk X.N X.env.scope scope own) (hcell : ∀ y ∈ scope.names, y.2 ≠ .cell) (hfp : ∀ b ∈ fp, FpOk X pins H b ∧ b < s.heap.objs.size) (hA : A'.handled = none) (hfr : A'.frames = some (cenv :: X.stack))
    (e1 : cenv.scope = scope) (e2 : cenv.globals = X.env.globals) (e3 : cenv.builtins = builtinsNs) (e4 : cenv.locals = s.heap.objs.size) (e5 : cenv.frame = some s.heap.objs.size) (ca : Caught scope X.env.cells cenv.cells) : (gxX X A' s H cenv fp pn).Ok where
  mod := I.ok.mod
  kind := (congrArg Scope.kind e1).trans ok.kind
  glob := e2.trans I.ok.glob
  blt := e3
  above := Nat.le_of_eq e4.symm
  inj := fun x y c h1 h2 => I.ok.inj x y c (ca.old x c h1) (ca.old y c h2)
  has := fun y h => by
    have h : scope.names.lookup y = some .cell ∨ scope.names.lookup y = some .free := by rw [← e1]; exact h
    exact h.elim (fun e => (hcell _ (PySem.mem_of_lookup e) rfl).elim) (ca.has y)
  cab := fun y c z => nomatch (show false = true from z)
  hd := fun _ => hA
  frames := hfr
  stk := .inr ⟨rfl, e5.trans (congrArg some e4.symm)⟩
  exf := fun b hb => ⟨fun z => Nat.lt_irrefl _ (e4 ▸ z ▸ (hfp b hb).2), fun y c e => (hfp b hb).1.2.2.2.2.1 y c (ca.old y c e)⟩
  bs := I.bs
  bsz := Nat.le_trans I.ok.bsz I.sz
  noex := fun b o e hb => ((hfp b hb).1.2.2.2.1).elim (I.ok.noex b o e) fun z => Nat.not_lt.mpr (Nat.le_trans I.ok.bsz z) (Heap.lt_size e)
  exfs := fun b hb z => (List.mem_cons.mp (I.stkSub b z)).elim (hfp b hb).1.2.1 (hfp b hb).1.2.2.1
  funs := I.stack
  frf := I.stkFree
theorem gx_start {A' : Around} {code it : Value} {h' : Heap} {gobj : Obj} {gens' : Array GenState} {tk : Nat} (I : Inv X pins σ H s) (ok : BlkOk X.N X.env.scope scope own) (hN : X.N.Nodup) (hcell : ∀ y ∈ scope.names, y.2 ≠ .cell)
    (hfp : ∀ b ∈ fp, FpOk X pins H b ∧ b < s.heap.objs.size) (hA : A'.handled = none) (hfr : A'.frames = some (gxE X scope (cloFrom X.env.cells scope.names []) s.heap.objs.size code :: X.stack)) (hgob : ∀ v, gobj.data ≠ .cell v) (hgf : gobj.isFreed = false)
    (hn' : h'.Ns s.heap.objs.size (fun y => if y = ".0" then some it else none)) (hs' : Heap.SameBut s.heap.objs.size (s.heap.push { cls := .type "frame", data := .dict #[] }) h') (hdot : (".0" : Str) ∉ X.N) (hgb : AllBare gens') :
    Inv (gxX X A' s H (gxE X scope (cloFrom X.env.cells scope.names []) s.heap.objs.size code) fp [(h'.objs.size, gobj)]) [] (wipe σ (own.map (·.2))) H { s with gens := gens', toks := tk, heap := h'.push gobj } := by
  have ca := caught_of I ok
  have hsz : h'.objs.size = s.heap.objs.size + 1 := hs'.1.trans (Heap.size_push ..)
  have old : ∀ b o, s.heap.get? b = some o → (h'.push gobj).get? b = some o := fun b o e => Heap.get?_push_of_some _ (hs'.extBut b o (Nat.ne_of_lt (Heap.lt_size e)) (Heap.get?_push_of_some _ e))
  exact {
    ok := gx_ok I ok hcell hfp hA hfr rfl rfl rfl rfl rfl ca
    os := rfl
    bare := hgb
    base := Un.kept old
    loc := ⟨_, hn'.push _, fun i y v hi hv hy => by
      have fr := free_of ok hN hi hv hy
      obtain ⟨m, _, see⟩ := I.loc
      have cf := ok.free _ (PySem.mem_of_lookup fr) rfl
      obtain ⟨u, ru, lk⟩ := see i y v hi (wipe_some hv).1 (.inr cf)
      obtain ⟨c, c1⟩ := ca.has y fr
      refine ⟨u, ru, .inr ⟨.inr fr, c, c1, ?_⟩⟩
      cases lk with
      | inl z => exact cf.elim (fun k => nomatch (show some NameKind.local = some .cell from z.1.symm.trans k)) fun k => nomatch (show some NameKind.local = some .free from z.1.symm.trans k)
      | inr z =>
        obtain ⟨_, c2, e2, cell⟩ := z
        have e3 : some c = some c2 := (ca.old y c c1).symm.trans e2
        cases e3
        exact cell.keeps old⟩
    cell := fun y c e => (I.cell y c (ca.old y c e)).imp fun _ z => z.keeps old
    free := I.hok.fresh (Nat.le_refl _)
    freeC := fun y c e => I.freeC y c (ca.old y c e)
    pin := fun p hp => by
      obtain rfl : p = (h'.objs.size, gobj) := by simpa using hp
      have le : s.heap.objs.size ≤ h'.objs.size := Nat.le.intro hsz.symm
      refine ⟨Heap.get?_push_size _ hgf, I.hok.fresh le, fun z => Nat.succ_ne_self s.heap.objs.size (hsz.symm.trans z), fun z => ?_, hgob⟩
      exact (List.mem_cons.mp (I.stkSub _ z)).elim (fun e => Nat.not_lt.mpr le (Nat.lt_of_le_of_lt (Nat.le_of_eq e) I.lt)) (I.nofs le)
    hok := I.hok.kept old
    len := (L2.wipe_length σ _).trans I.len }
end
/-- any (isAll = false), all (isAll = true); W by the turn and a measure -/
def tGx (P : Addr) (isAll : Bool) (wi : TI) (g : TG) (tt : TT) (te : TE) (vs : List Nat) : TE := fun σ H Q => wi σ H fun J H1 => GxR.TabG H1 P ∧ ∀ H1', GxR.Tabbed P H1 H1' → ∃ W : Nat → Nat → Hp → Prop, (∃ m, W 0 m H1') ∧ ∀ i m H, W i m H →
  (J.stop i H ∧ Q (.bl isAll) H) ∨ (J.go i H ∧ ∃ Nx : Hp → Prop, (∀ H', Nx H' → ∃ m', m' < m ∧ W (i + 1) m' H') ∧ ∀ x H', J.yld i H x H' → g x (wipe σ vs) H' fun σ2 H2 => wipe σ2 vs = wipe σ vs ∧ tt σ2 H2 fun b H3 =>
    if b = true then te σ2 H3 fun y H4 => ∃ c, y = .bl c ∧ (if c = isAll then Nx H4 else Q (.bl c) H4) else Nx H3)
/-- an item comes out: it goes on, or the walk ends with it -/
def gxY (Y : Cx) (isAll : Bool) (Q : VK) : Protocol := fun n s₀ v s kap => ∃ (c : Bool) (σ : L2.St) (H : Hp) (pl : List (Addr × Obj)), v = .bool c ∧ Inv Y pl σ H s ∧ if c = isAll then ∀ s', s'.heap = s.heap → s'.os = s.os → AllBare s'.gens → kap (.send .none) s' else Q (.bl c) H
def gxR (Y : Cx) (isAll : Bool) (Q : VK) : GenEnd := fun n s₀ r s => r = .ok .next ∧ ∃ (σ : L2.St) (H : Hp) (pl : List (Addr × Obj)), Inv Y pl σ H s ∧ Q (.bl isAll) H
section
variable {Y : Cx} {B : Around} {elt tg iter : Expr} {ifs : List Expr} {scope : Scope} {pos : Pos} {it : Addr} {fp : List Addr} {tn : Nat → Heap → Prop} {J : It} {g : TG} {tt : TT} {te : TE} {vs : List Nat} {σ : L2.St} {Q : VK} {isAll : Bool} {W : Nat → Nat → Hp → Prop}
theorem pin_stay {b : Addr} {o : Obj} {h : Heap} {σ' : L2.St} {H' : Hp} {s' : Shared} (I : Inv Y ([] ++ pinsAt fp h) σ' H' s') (hb : b ∈ fp) (e : h.get? b = some o) : s'.heap.get? b = some o ∧ H' b = none :=
  (I.pin (b, o) (List.mem_append.mpr (.inr (List.mem_append.mpr (.inr (mem_pinsAt hb e)))))).imp id And.left
theorem gx_loop (hc : Y.calm = true) (hYA : Y.A = B.over (.compLoop (.GeneratorExp elt [⟨tg, iter, ifs, 0⟩] scope pos) 0 (.ref it) .none Y.env) []) (hex : Y.ex = fp) (hxe : Y.xe = fun _ _ => False) (hco : Y.env.scope.isCoroutine = false) (hpn : ∀ p ∈ Y.pn, p.1 ∉ fp)
    (T : Turn Y.prog Y.w Y.K tg J fp it tn) (hg : PG Y tg g) (ht : PTs Y ifs tt) (he : PE Y elt te)
    (turn : ∀ i m H, W i m H → (J.stop i H ∧ Q (.bl isAll) H) ∨ (J.go i H ∧ ∃ Nx : Hp → Prop, (∀ H', Nx H' → ∃ m', m' < m ∧ W (i + 1) m' H') ∧ ∀ x H', J.yld i H x H' → g x (wipe σ vs) H' fun σ2 H2 => wipe σ2 vs = wipe σ vs ∧ tt σ2 H2 fun b H3 =>
      if b = true then te σ2 H3 fun y H4 => ∃ c, y = .bl c ∧ (if c = isAll then Nx H4 else Q (.bl c) H4) else Nx H3)) :
    ∀ (m n : Nat) (i : Nat) (H : Hp) (s₀ s : Shared), m < n → Inv Y [] (wipe σ vs) H s → tn i s.heap → (∀ b ∈ fp, H b = none) → W i m H →
      Seg (model Y.prog Y.w) B (gxR Y isAll Q) (gxY Y isAll Q) n s₀ (.compLoop (.GeneratorExp elt [⟨tg, iter, ifs, 0⟩] scope pos) 0 (.ref it) .none Y.env)
        ((model Y.prog Y.w).den (.compLoop (.GeneratorExp elt [⟨tg, iter, ifs, 0⟩] scope pos) 0 (.ref it) .none Y.env)) [] s := by
  have stat : ∀ {σ' : L2.St} {H' : Hp} {s' : Shared}, Inv Y [] σ' H' s' → (∀ b ∈ fp, H' b = none) → ∀ b ∈ fp, FpOk Y [] H' b := fun {σ' H' s'} I' hn b hb =>
    have hb' : b ∈ Y.ex := by rw [hex]; exact hb
    ⟨hn b hb, (I'.ok.exf b hb').1, I'.ok.exfs b hb', .inl hb', fun x c e => (I'.ok.exf b hb').2 x c e, fun p hp z => by
      rw [List.append_nil] at hp
      exact hpn p hp (by rw [z]; exact hb)⟩
  have noX : ∀ {α : Type} {t : Sem α} {Q' : α → Shared → Prop} {s' : Shared}, wpAny (model Y.prog Y.w) Y.A t Q' Y.xe s' → wpAny (model Y.prog Y.w) Y.A t Q' (fun _ _ => False) s' := fun h => by
    rw [hxe] at h
    exact h
  intro m
  induction m using Nat.strongRecOn with
  | ind m ih =>
    intro n i H s₀ s hmn I st hn w
    show Seg _ B _ _ _ s₀ _ ((compTurn (.GeneratorExp elt [⟨tg, iter, ifs, 0⟩] scope pos) 0 (.ref it) .none Y.env).onRaise (leaving Y.env)) [] s
    rw [compTurn_gen, Sem.onRaise_eq_wrap]
    refine seg_bind_wrap (wpAny_standAt ?_)
    rcases turn i m H w with ⟨stop, qq⟩ | ⟨go, Nx, hNx, step⟩
    · refine seg_bind_wrap ?_
      rw [← hYA]
      refine thnF (T.done Y rfl rfl rfl hc i [] s _ H (fun _ _ => False) I (stat I hn) st stop) fun r s1 ⟨hr, I1⟩ => ?_
      subst hr
      exact seg_end (.ok .next) ⟨rfl, _, _, _, I1, qq⟩
    · refine seg_bind_wrap ?_
      rw [← hYA]
      refine thnF (T.item Y rfl rfl rfl hc i [] s _ H (fun _ _ => False) I (stat I hn) st go) fun r s1 ⟨u, hr, h1⟩ => ?_
      subst hr
      refine seg_bind_wrap ?_
      rw [← hYA]
      refine thnF h1 fun _ s2 ⟨x, H2, I2, r2, y2, st2, n2⟩ => ?_
      have I2' := I2.pinned (stat I2 n2) (T.obj _ _ st2)
      refine seg_bind_wrap ?_
      rw [← hYA]
      refine thnF (noX (hg.run _ s2 _ H2 x u _ I2' r2 (step x H2 y2))) fun _ s3 ⟨σ3, H3, I3, hw3, q3⟩ => ?_
      refine seg_bind_wrap ?_
      rw [← hYA]
      refine thnF (noX (ht.run _ s3 σ3 H3 _ I3 q3)) fun b s4 ⟨H4, I4, q4⟩ => ?_
      have fin : ∀ {n' : Nat} {s₁ s' : Shared} {H' : Hp}, m ≤ n' → Inv Y ([] ++ pinsAt fp s2.heap) σ3 H' s' → Nx H' →
          Seg (model Y.prog Y.w) B (gxR Y isAll Q) (gxY Y isAll Q) n' s₁ (.compLoop (.GeneratorExp elt [⟨tg, iter, ifs, 0⟩] scope pos) 0 (.ref it) .none Y.env)
            ((model Y.prog Y.w).den (.compLoop (.GeneratorExp elt [⟨tg, iter, ifs, 0⟩] scope pos) 0 (.ref it) .none Y.env)) [] s' := fun {n' s₁ s' H'} hn' I' nx => by
        obtain ⟨mm, lt, w'⟩ := hNx H' nx
        have hl : (wipe σ vs).length = σ3.length := by rw [← hw3, L2.wipe_length]
        refine ih mm lt n' (i + 1) H' s₁ s' (by omega) ((I'.unpinned (pins := [])).weak hl (fun j v e => ?_)) (T.keep _ _ _ st2 fun b hb o e => (pin_stay I' hb e).1) (fun b hb => ?_) w'
        · rw [← hw3] at e
          exact (wipe_some e).1
        · obtain ⟨o, e, _⟩ := T.obj _ _ st2 b hb
          exact (pin_stay I' hb e).2
      cases b with
      | false =>
        simp only [Bool.false_eq_true, if_false] at q4 ⊢
        exact seg_again rfl (fin (by omega) I4 q4)
      | true =>
        simp only [if_true] at q4 ⊢
        have hy : ∀ v, yieldOut Y.env v = yieldValue v := fun v => by simp only [yieldOut, hco, Bool.false_eq_true, if_false]
        simp only [hy]
        rw [Sem.bind_eq_wrap', Sem.bind_eq_wrap', Sem.wrap_wrap, Sem.wrap_wrap]
        refine seg_wrap ?_
        rw [← hYA]
        refine thnF (noX (he.run _ s4 σ3 H4 _ I4 q4)) fun z s5 ⟨yv, H5, I5, r5, c, hyc, q5⟩ => ?_
        subst hyc
        cases r5
        obtain ⟨n', rfl⟩ : ∃ n', n = n' + 1 := ⟨n - 1, by omega⟩
        refine seg_at (seg_yield rfl rfl rfl ⟨c, σ3, H5, _, rfl, I5, ?_⟩)
        split at q5
        · rename_i hcA
          rw [if_pos hcA]
          intro s' hh ho hb
          exact seg_again rfl (fin (by omega) (inv_gens I5 hh ho hb) q5)
        · rename_i hcA
          rw [if_neg hcA]
          exact q5
end
end Pyr

set_option Elab.async false
set_option autoImplicit false
set_option linter.all false
set_option maxRecDepth 100000
set_option maxHeartbeats 2000000
namespace Pyr
open PySem PySem.Spec PyProof.Rows L2 Evl
theorem gx_drain_all {Y : Cx} {A1 : Around} {a : Addr} {g : Nat} {Q : VK} {R : Result → Shared → Prop} (hh : A1.handled = none) (hd : A1.depth < recursionLimit) (hY : ∀ (pl : List (Addr × Obj)) (σ : L2.St) (H : Hp) (s : Shared), Inv Y pl σ H s → s.heap.IsGen a g)
    (hR : ∀ (c : Bool) (pl : List (Addr × Obj)) (σ : L2.St) (H : Hp) (s : Shared) (h' : Heap) (gens' : Array GenState), Inv Y pl σ H s → Q (.bl c) H → AllBare gens' → (∀ b o, s.heap.get? b = some o → h'.get? b = some o) → R (.ok (.ret (.bool c))) { s with heap := h', gens := gens' }) :
    ∀ (n : Nat) (s : Shared), s.heap.IsGen a g → s.heap.NoLimit →
      (∃ gs, s.gens[g]? = some gs ∧ gs.Goes (model Y.prog Y.w) A1.in1.in1 (gxR Y true Q) (gxY Y true Q) n (.send .none) (s.setGen g .running)) →
      codeAny (model Y.prog Y.w) A1 (.builtin "all.loop" ⟨[.ref a], []⟩) R s := by
  intro n
  induction n with
  | zero =>
    intro s hg hl ⟨gs, hgs, hgo⟩
    refine codeAny_builtin F.entry_all_loop ?_
    rw [Around.under_plainId F.plain_all_loop _]
    show wpAny _ A1.in1 (pyNext (.ref a) >>= _) _ _ s
    refine wpAny_bind (wpAny_pyNext_genexpQ (A := A1.in1) (P := fun n s₀ s₁ => ∃ (σ : L2.St) (H : Hp) (pl : List (Addr × Obj)), Inv Y pl σ H s₁ ∧ Q (.bl true) H) hh hl hd hg hgs hgo (fun v s₁ gs' hb hv => ?_) (fun s₁ hp h' hk => ?_))
    · obtain ⟨c, σ, H, pl, rfl, I, q⟩ := hv
      refine wpAny_bind (wpAny_holding (wpAny_truthy_bool ?_))
      refine wpAny_bind (wpAny_letGo ?_)
      by_cases hc : c = true
      · rw [if_pos hc] at q
        exact (q s₁ rfl rfl I.bare).elim
      · rw [if_neg hc] at q
        have e : c = !true := by cases c <;> simp_all
        subst e
        simp only [Bool.not_true, Bool.not_false, if_true, Bool.false_eq_true, if_false]
        refine wpAny_bind (wpAny_rule (wpAny_pure ?_))
        exact hR _ pl σ H s₁ s₁.heap (s₁.setGen g gs').gens I q (allBare_setGen I.bare hb) fun _ _ z => z
    · obtain ⟨σ, H, pl, I, q⟩ := hp
      refine wpAny_bind (wpAny_rule (wpAny_pure ?_))
      exact hR true pl σ H s₁ h' (s₁.setGen g .finished).gens I q (allBare_setGen I.bare rfl) hk
  | succ m ih =>
    intro s hg hl ⟨gs, hgs, hgo⟩
    have gIn : g < s.gens.size := (Array.getElem?_eq_some_iff.mp hgs).1
    refine codeAny_builtin F.entry_all_loop ?_
    rw [Around.under_plainId F.plain_all_loop _]
    show wpAny _ A1.in1 (pyNext (.ref a) >>= _) _ _ s
    refine wpAny_bind (GenW.wpAny_gsz (n := g + 1) gIn (wpAny_pyNext_genexpQ (A := A1.in1) (P := fun n s₀ s₁ => ∃ (σ : L2.St) (H : Hp) (pl : List (Addr × Obj)), Inv Y pl σ H s₁ ∧ Q (.bl true) H) hh hl hd hg hgs hgo (fun v s₁ gs' hb hv => ?_) (fun s₁ hp h' hk => ?_)))
    · intro hsz
      have gIn1 : g < s₁.gens.size := by
        have q : (s₁.setGen g gs').gens.size = s₁.gens.size := GenW.setGen_size _ _ _
        have more : g + 1 ≤ (s₁.setGen g gs').gens.size := hsz
        omega
      obtain ⟨c, σ, H, pl, rfl, I, q⟩ := hv
      refine wpAny_bind (wpAny_holding (wpAny_truthy_bool ?_))
      refine wpAny_bind (wpAny_letGo ?_)
      by_cases hc : c = true
      · rw [if_pos hc] at q
        subst hc
        simp only [if_true, Bool.false_eq_true, if_false]
        refine wpAny_pure ⟨plainId_quiet F.plain_all_loop _, ?_⟩
        exact ih (s₁.setGen g gs') (hY pl σ H s₁ I) I.nolimit ⟨gs', setGen_at gIn1, q _ rfl rfl (allBare_setGen (s := s₁.setGen g gs') (allBare_setGen I.bare hb) rfl)⟩
      · rw [if_neg hc] at q
        have e : c = !true := by cases c <;> simp_all
        subst e
        simp only [Bool.not_true, Bool.not_false, if_true, Bool.false_eq_true, if_false]
        refine wpAny_bind (wpAny_rule (wpAny_pure ?_))
        exact hR _ pl σ H s₁ s₁.heap (s₁.setGen g gs').gens I q (allBare_setGen I.bare hb) fun _ _ z => z
    · intro _
      obtain ⟨σ, H, pl, I, q⟩ := hp
      refine wpAny_bind (wpAny_rule (wpAny_pure ?_))
      exact hR true pl σ H s₁ h' (s₁.setGen g .finished).gens I q (allBare_setGen I.bare rfl) hk
theorem gx_drain_any {Y : Cx} {A1 : Around} {a : Addr} {g : Nat} {Q : VK} {R : Result → Shared → Prop} (hh : A1.handled = none) (hd : A1.depth < recursionLimit) (hY : ∀ (pl : List (Addr × Obj)) (σ : L2.St) (H : Hp) (s : Shared), Inv Y pl σ H s → s.heap.IsGen a g)
    (hR : ∀ (c : Bool) (pl : List (Addr × Obj)) (σ : L2.St) (H : Hp) (s : Shared) (h' : Heap) (gens' : Array GenState), Inv Y pl σ H s → Q (.bl c) H → AllBare gens' → (∀ b o, s.heap.get? b = some o → h'.get? b = some o) → R (.ok (.ret (.bool c))) { s with heap := h', gens := gens' }) :
    ∀ (n : Nat) (s : Shared), s.heap.IsGen a g → s.heap.NoLimit →
      (∃ gs, s.gens[g]? = some gs ∧ gs.Goes (model Y.prog Y.w) A1.in1.in1 (gxR Y false Q) (gxY Y false Q) n (.send .none) (s.setGen g .running)) →
      codeAny (model Y.prog Y.w) A1 (.builtin "any.loop" ⟨[.ref a], []⟩) R s := by
  intro n
  induction n with
  | zero =>
    intro s hg hl ⟨gs, hgs, hgo⟩
    refine codeAny_builtin F.entry_any_loop ?_
    rw [Around.under_plainId F.plain_any_loop _]
    show wpAny _ A1.in1 (pyNext (.ref a) >>= _) _ _ s
    refine wpAny_bind (wpAny_pyNext_genexpQ (A := A1.in1) (P := fun n s₀ s₁ => ∃ (σ : L2.St) (H : Hp) (pl : List (Addr × Obj)), Inv Y pl σ H s₁ ∧ Q (.bl false) H) hh hl hd hg hgs hgo (fun v s₁ gs' hb hv => ?_) (fun s₁ hp h' hk => ?_))
    · obtain ⟨c, σ, H, pl, rfl, I, q⟩ := hv
      refine wpAny_bind (wpAny_holding (wpAny_truthy_bool ?_))
      refine wpAny_bind (wpAny_letGo ?_)
      by_cases hc : c = false
      · rw [if_pos hc] at q
        exact (q s₁ rfl rfl I.bare).elim
      · rw [if_neg hc] at q
        have e : c = !false := by cases c <;> simp_all
        subst e
        simp only [Bool.not_true, Bool.not_false, if_true, Bool.false_eq_true, if_false]
        refine wpAny_bind (wpAny_rule (wpAny_pure ?_))
        exact hR _ pl σ H s₁ s₁.heap (s₁.setGen g gs').gens I q (allBare_setGen I.bare hb) fun _ _ z => z
    · obtain ⟨σ, H, pl, I, q⟩ := hp
      refine wpAny_bind (wpAny_rule (wpAny_pure ?_))
      exact hR false pl σ H s₁ h' (s₁.setGen g .finished).gens I q (allBare_setGen I.bare rfl) hk
  | succ m ih =>
    intro s hg hl ⟨gs, hgs, hgo⟩
    have gIn : g < s.gens.size := (Array.getElem?_eq_some_iff.mp hgs).1
    refine codeAny_builtin F.entry_any_loop ?_
    rw [Around.under_plainId F.plain_any_loop _]
    show wpAny _ A1.in1 (pyNext (.ref a) >>= _) _ _ s
    refine wpAny_bind (GenW.wpAny_gsz (n := g + 1) gIn (wpAny_pyNext_genexpQ (A := A1.in1) (P := fun n s₀ s₁ => ∃ (σ : L2.St) (H : Hp) (pl : List (Addr × Obj)), Inv Y pl σ H s₁ ∧ Q (.bl false) H) hh hl hd hg hgs hgo (fun v s₁ gs' hb hv => ?_) (fun s₁ hp h' hk => ?_)))
    · intro hsz
      have gIn1 : g < s₁.gens.size := by
        have q : (s₁.setGen g gs').gens.size = s₁.gens.size := GenW.setGen_size _ _ _
        have more : g + 1 ≤ (s₁.setGen g gs').gens.size := hsz
        omega
      obtain ⟨c, σ, H, pl, rfl, I, q⟩ := hv
      refine wpAny_bind (wpAny_holding (wpAny_truthy_bool ?_))
      refine wpAny_bind (wpAny_letGo ?_)
      by_cases hc : c = false
      · rw [if_pos hc] at q
        subst hc
        simp only [if_true, Bool.false_eq_true, if_false]
        refine wpAny_pure ⟨plainId_quiet F.plain_any_loop _, ?_⟩
        exact ih (s₁.setGen g gs') (hY pl σ H s₁ I) I.nolimit ⟨gs', setGen_at gIn1, q _ rfl rfl (allBare_setGen (s := s₁.setGen g gs') (allBare_setGen I.bare hb) rfl)⟩
      · rw [if_neg hc] at q
        have e : c = !false := by cases c <;> simp_all
        subst e
        simp only [Bool.not_true, Bool.not_false, if_true, Bool.false_eq_true, if_false]
        refine wpAny_bind (wpAny_rule (wpAny_pure ?_))
        exact hR _ pl σ H s₁ s₁.heap (s₁.setGen g gs').gens I q (allBare_setGen I.bare hb) fun _ _ z => z
    · intro _
      obtain ⟨σ, H, pl, I, q⟩ := hp
      refine wpAny_bind (wpAny_rule (wpAny_pure ?_))
      exact hR false pl σ H s₁ h' (s₁.setGen g .finished).gens I q (allBare_setGen I.bare rfl) hk
end Pyr

set_option Elab.async false
set_option autoImplicit false
set_option linter.all false
set_option maxRecDepth 100000
set_option maxHeartbeats 2000000
namespace Pyr
open PySem PySem.Spec PyProof.Rows L2 Evl

def GxReady (X : Cx) (pins : List (Addr × Obj)) (σ : L2.St) (isAll : Bool) (Q : VK) (a : Addr) (s5 : Shared) : Prop :=
  ∃ (A' : Around) (s4 : Shared) (H4 : Hp) (cenv : Env) (fp : List Addr) (pn : List (Addr × Obj)) (gi n : Nat), s5.heap.IsGen a gi ∧ s5.heap.NoLimit ∧
    (∃ gs, s5.gens[gi]? = some gs ∧ gs.Goes (model X.prog X.w) X.A.in1.in1 (gxR (gxX X A' s4 H4 cenv fp pn) isAll Q) (gxY (gxX X A' s4 H4 cenv fp pn) isAll Q) n (.send .none) (s5.setGen gi .running)) ∧
    (∀ (pl : List (Addr × Obj)) (σ' : L2.St) (H' : Hp) (s' : Shared), Inv (gxX X A' s4 H4 cenv fp pn) pl σ' H' s' → s'.heap.IsGen a gi) ∧
    (∀ (c : Bool) (pl : List (Addr × Obj)) (σ' : L2.St) (H' : Hp) (s' : Shared) (h' : Heap) (gens' : Array GenState), Inv (gxX X A' s4 H4 cenv fp pn) pl σ' H' s' → Q (.bl c) H' → AllBare gens' → (∀ b o, s'.heap.get? b = some o → h'.get? b = some o) → EP X pins σ Q (.bool c) { s' with heap := h', gens := gens' })
section
variable {X : Cx} {pins : List (Addr × Obj)} {σ : L2.St} {H : Hp} {s : Shared} {elt tg iter : Expr} {ifs : List Expr} {scope : Scope} {own : List (Str × Nat)} {gpos : Pos} {wi : TI} {g : TG} {tt : TT} {te : TE} {c P : Addr} {k : Nat} {isAll : Bool} {Q : VK} {Q' : Value → Shared → Prop}
theorem gx_make (hr : Room (k + 1) X.A) (hc : X.calm = true) (hN : X.N.Nodup) (TB : GxR.TabB X.base X.mg c P) (hcode : X.env.code = .ref c) (hi : PI X tg iter wi) (ok : BlkOk X.N X.env.scope scope own) (hcell : ∀ y ∈ scope.names, y.2 ≠ .cell) (hco : scope.isCoroutine = false) (hdot : scope.names.lookup (".0" : Str) = some NameKind.local) (hdN : (".0" : Str) ∉ X.N)
    (hg : ∀ (A' : Around) (s : Shared) (H : Hp) (cl : List (Str × Addr)) (C : Addr) (code : Value) (fp : List Addr) (pn : List (Addr × Obj)), Room k A' → PG (gxX X A' s H (gxE X scope cl C code) fp pn) tg g)
    (ht : ∀ (A' : Around) (s : Shared) (H : Hp) (cl : List (Str × Addr)) (C : Addr) (code : Value) (fp : List Addr) (pn : List (Addr × Obj)), Room k A' → PTs (gxX X A' s H (gxE X scope cl C code) fp pn) ifs tt)
    (he : ∀ (A' : Around) (s : Shared) (H : Hp) (cl : List (Str × Addr)) (C : Addr) (code : Value) (fp : List Addr) (pn : List (Addr × Obj)), Room k A' → PE (gxX X A' s H (gxE X scope cl C code) fp pn) elt te)
    (hs : ∀ v, genFold iter X.env v = pure v) (I : Inv X pins σ H s) (h : tGx P isAll wi g tt te (own.map (·.2)) σ H Q) (hQ : ∀ a s5, GxReady X pins σ isAll Q a s5 → Q' (.ref a) s5) :
    wpAny (model X.prog X.w) X.A (eval (.GeneratorExp elt [⟨tg, iter, ifs, 0⟩] scope gpos) X.env) Q' X.xe s := by
  refine wpAny_GeneratorExp_make hco (closure_ok (all_caught I ok)) hcell hdot ok.kind (by have := hr.dp; omega) ?_ hs
  refine thn (hi.run pins s σ H _ I h) fun xv s1 hx => thn hx fun itv s2 h2 => ?_
  obtain ⟨it, fp, tn, J, H2, e, I2, T, st2, f2, ⟨ps, hP, htr⟩, q⟩ := h2
  subst e
  refine ⟨I2.nolimit, ?_⟩
  have hPs : s2.heap.get? P = some { cls := .none, data := .fields ps } := I2.hok P _ hP
  have cd : PySem.W.CodeHd s2.heap c P := TB.code.keeps fun b u e => I2.bk b u e
  have nP : ∀ b ∈ fp, b ≠ P := fun b hb z => by
    have := (f2 b hb).1
    rw [z, hP] at this
    cases this
  have cont : ∀ (code : Value) (h3 : Heap) (tk : Nat) (ps' : Array Value), Heap.ExtBut P s2.heap h3 → h3.get? P = some { cls := .none, data := .fields ps' } → (∃ more, ps' = ps ++ more) → TriplesOk ps'.toList →
      wpAny (model X.prog X.w) X.A (builtinsFor X.env.globals X.env.builtins) (fun bi s₄ =>
        ∀ h', h'.Ns s₄.heap.objs.size (fun y => if y = ".0" then some (.ref it) else none) → Heap.SameBut s₄.heap.objs.size (s₄.heap.push { cls := .type "frame", data := .dict #[] }) h' →
          Q' (.ref h'.objs.size) { s₄ with
            gens := s₄.gens.push (.fresh (.compStart (.GeneratorExp elt [⟨tg, iter, ifs, 0⟩] scope gpos) 0 (.ref it) .none (genEnv scope (cloFrom X.env.cells scope.names []) s₄.heap.objs.size code bi X.env))),
            toks := s₄.toks + 1 + 1 + 1,
            heap := h'.push { cls := .type "generator", data := .fields #[.int s₄.gens.size 0, .str "<genexpr>" (s₄.toks + 1), .str (X.env.qual ++ "<genexpr>") (s₄.toks + 1 + 1)] } }) X.xe { s2 with heap := h3, toks := tk } := by
    intro code h3 tk ps' hx hP3 ⟨more, hmore⟩ ht3
    obtain ⟨bAt, bOb, e1, e2, _, e4, e5, e6, e7, e8⟩ := TB.bm
    refine wpAny_builtinsFor (m := X.mg) (by rw [I2.ok.glob]; exact (I2.ok.mod.glob.keeps I2.bk).extBut hx TB.gP) e1 e2 (hx _ _ e4 (I2.bk _ _ e5)) e6 e7 e8 ?_
    subst hmore
    have I3 := GxR.inv_tab (h' := h3) (g' := s2.gens) (d' := s2.drawn) (t' := tk) I2 hP (fun b o hb e => hx b o hb e) hP3 I2.bare
    have hTab : GxR.Tabbed P H2 (upd H2 P (.tbl (ps ++ more))) := ⟨⟨ps ++ more, upd_same, ht3⟩, fun b hb => upd_ne hb⟩
    obtain ⟨W, ⟨m0, w0⟩, turn⟩ := q _ hTab
    generalize hH4 : upd H2 P (.tbl (ps ++ more)) = H4 at I3 hTab w0
    have n4 : ∀ b ∈ fp, H4 b = none := fun b hb => by
      rw [← hH4, upd_ne (nP b hb)]
      exact (f2 b hb).1
    have st3 : tn 0 h3 := T.keep _ _ _ st2 fun b hb o e => hx b o (nP b hb) e
    generalize hs4 : ({ s2 with heap := h3, toks := tk } : Shared) = s4
    have I4 : Inv X pins σ H4 s4 := by
      rw [← hs4]
      exact I3
    have st4 : tn 0 s4.heap := by
      rw [← hs4]
      exact st3
    intro h' hn' hs'
    have hsz : h'.objs.size = s4.heap.objs.size + 1 := by rw [hs'.1, Heap.size_push]
    have f4 : ∀ b ∈ fp, FpOk X pins H4 b ∧ b < s4.heap.objs.size := fun b hb => by
      refine ⟨⟨n4 b hb, (f2 b hb).2⟩, ?_⟩
      obtain ⟨o, e, _⟩ := T.obj _ _ st4 b hb
      exact Heap.lt_size e
    have kp : ∀ (gobj : Obj) b o, s4.heap.get? b = some o → (h'.push gobj).get? b = some o := fun gobj b o e => Heap.get?_push_of_some _ (hs'.extBut b o (Nat.ne_of_lt (Heap.lt_size e)) (Heap.get?_push_of_some _ e))
    have hh : X.A.handled = none := hr.hd
    have hA' : Room k ((X.A.in1.in1).over (.compLoop (.GeneratorExp elt [⟨tg, iter, ifs, 0⟩] scope gpos) 0 (.ref it) .none (gxE X scope (cloFrom X.env.cells scope.names []) s4.heap.objs.size code)) []) := by
      have d1 : ((X.A.in1.in1).over (.compLoop (.GeneratorExp elt [⟨tg, iter, ifs, 0⟩] scope gpos) 0 (.ref it) .none (gxE X scope (cloFrom X.env.cells scope.names []) s4.heap.objs.size code)) []).depth ≤ X.A.depth + 1 := Nat.le_of_eq rfl
      have u1 : ((X.A.in1.in1).over (.compLoop (.GeneratorExp elt [⟨tg, iter, ifs, 0⟩] scope gpos) 0 (.ref it) .none (gxE X scope (cloFrom X.env.cells scope.names []) s4.heap.objs.size code)) []).units ≤ X.A.units + 5 := Nat.le_of_eq rfl
      refine ⟨hh, ?_, ?_⟩
      · have := hr.dp
        omega
      · have := hr.un
        omega
    have hfrm : ((X.A.in1.in1).over (.compLoop (.GeneratorExp elt [⟨tg, iter, ifs, 0⟩] scope gpos) 0 (.ref it) .none (gxE X scope (cloFrom X.env.cells scope.names []) s4.heap.objs.size code)) []).frames = some (gxE X scope (cloFrom X.env.cells scope.names []) s4.heap.objs.size code :: X.stack) := by
      show pushEnvs [gxE X scope (cloFrom X.env.cells scope.names []) s4.heap.objs.size code] X.A.frames = _
      rw [I4.ok.frames]
      rfl
    generalize hgo : ({ cls := .type "generator", data := .fields #[.int s4.gens.size 0, .str "<genexpr>" (s4.toks + 1), .str (X.env.qual ++ "<genexpr>") (s4.toks + 1 + 1)] } : Obj) = gobj
    have I5 := gx_start (it := .ref it) (gobj := gobj) (tk := s4.toks + 1 + 1 + 1) (code := code) (gens' := s4.gens.push (.fresh (.compStart (.GeneratorExp elt [⟨tg, iter, ifs, 0⟩] scope gpos) 0 (.ref it) .none (genEnv scope (cloFrom X.env.cells scope.names []) s4.heap.objs.size code builtinsNs X.env)))) I4 ok hN hcell f4 hA'.hd hfrm (by rw [← hgo]; intro v z; cases z) (by rw [← hgo]; rfl) hn' hs' hdN (I4.bare.push rfl)
    generalize hA2 : ((X.A.in1.in1).over (.compLoop (.GeneratorExp elt [⟨tg, iter, ifs, 0⟩] scope gpos) 0 (.ref it) .none (gxE X scope (cloFrom X.env.cells scope.names []) s4.heap.objs.size code)) []) = A2 at I5 hA' hfrm
    have isg : ∀ {h5 : Heap}, h5.get? h'.objs.size = some gobj → h5.IsGen h'.objs.size s4.gens.size := fun {h5} e => by
      rw [← hgo] at e
      exact ⟨_, _, _, e, rfl, rfl, rfl⟩
    refine hQ _ _ ⟨A2, s4, H4, gxE X scope (cloFrom X.env.cells scope.names []) s4.heap.objs.size code, fp, [(h'.objs.size, gobj)], s4.gens.size, m0 + 1, isg (Heap.get?_push_size _ (by rw [← hgo]; rfl)), I5.nolimit, ⟨_, Array.getElem?_push_size .., rfl, ?_⟩, fun pl σ' H' s' I' => ?_, fun cb pl σ' H' s' h5 gens' I' qf hb hk => ?_⟩
    · have I6 : Inv (gxX X A2 s4 H4 (gxE X scope (cloFrom X.env.cells scope.names []) s4.heap.objs.size code) fp [(h'.objs.size, gobj)]) [] (wipe σ (own.map (·.2))) H4 (Shared.setGen { s4 with gens := s4.gens.push (.fresh (.compStart (.GeneratorExp elt [⟨tg, iter, ifs, 0⟩] scope gpos) 0 (.ref it) .none (genEnv scope (cloFrom X.env.cells scope.names []) s4.heap.objs.size code builtinsNs X.env))), toks := s4.toks + 1 + 1 + 1, heap := h'.push gobj } s4.gens.size .running) :=
        inv_gens I5 rfl rfl (allBare_setGen I5.bare rfl)
      have loop := gx_loop (Y := gxX X A2 s4 H4 (gxE X scope (cloFrom X.env.cells scope.names []) s4.heap.objs.size code) fp [(h'.objs.size, gobj)]) (B := X.A.in1.in1) (σ := σ) (vs := own.map (·.2)) hc hA2.symm rfl rfl hco
        (fun p hp z => by
          rw [List.mem_singleton.mp hp] at z
          have h1 := (f4 _ z).2
          rw [hsz] at h1
          exact absurd h1 (Nat.not_lt.mpr (Nat.le_succ _))) T (hg A2 s4 H4 _ _ code fp _ hA') (ht A2 s4 H4 _ _ code fp _ hA') (he A2 s4 H4 _ _ code fp _ hA') turn m0 (m0 + 1) 0 H4
      have st6 : tn 0 (h'.push gobj) := T.keep _ _ _ st4 fun b hb o e => kp gobj b o e
      show Seg _ _ _ _ _ _ _ ((compStart (.GeneratorExp elt [⟨tg, iter, ifs, 0⟩] scope gpos) 0 (.ref it) .none (gxE X scope (cloFrom X.env.cells scope.names []) s4.heap.objs.size code)).onRaise (leaving (gxE X scope (cloFrom X.env.cells scope.names []) s4.heap.objs.size code))) [] _
      have loop2 := fun s₀ => loop s₀ _ (Nat.lt_succ_self _) I6 st6 n4 w0
      unfold compStart
      rw [Sem.onRaise_eq_wrap]
      show Seg _ _ _ _ _ _ _ ((ask >>= _).wrap _ _ _ _) [] _
      refine seg_bind_wrap (wpAny_askSetting ?_)
      split
      · exact seg_again rfl (loop2 _)
      · first
          | exact seg_bind_wrap (wpAny_rule (seg_bind_wrap (wpAny_standAt (seg_bind_wrap (T.self _ 0 _ _ _ st6 (seg_again rfl (loop2 _)))))))
          | (refine seg_bind_wrap (wpAny_rule ?_); show Seg _ _ _ _ _ _ _ ((standAt iter.pos >>= _).wrap _ _ _ _) [] _; exact seg_bind_wrap (wpAny_standAt (seg_bind_wrap (T.self _ 0 _ _ _ st6 (seg_again rfl (loop2 _))))))
    · exact isg (I'.pin (h'.objs.size, gobj) (List.mem_append_left _ (List.mem_singleton.mpr rfl))).1
    · have I7 : Inv X pins σ H' { s' with gens := gens' } := I4.call' (ch := fp) (s' := { s' with gens := gens' }) I'.os I'.base I'.hok hb fun b hb => ⟨(f4 b hb).1.2.2.2.1, (f4 b hb).1.2.1, (f4 b hb).1.2.2.2.2.1, (f4 b hb).1.2.2.2.2.2⟩
      exact ⟨.bl cb, H', I7.kept (t' := s'.toks) hk, rfl, qf⟩
  cases known : codeAmong gpos ps.toList with
  | none =>
    refine wpAny_genexprCodeX hcode (cd.code hPs htr) (cd.tab hPs) known fun c' h' tk hx hge hlt hco' _ htab' _ => ?_
    obtain ⟨o1, vs, f1, tf, fl, tg', inF, tx, tt', op, _, _, _, _, _, _, _, _, _, htr', _⟩ := hco'
    exact cont _ h' tk _ hx htab'.2 ⟨_, rfl⟩ htr'
  | some cv =>
    refine wpAny_genexprCode_hit hcode (cd.code hPs htr) known ?_
    exact cont cv s2.heap s2.toks ps (Heap.ExtBut.refl _ _) hPs ⟨#[], by simp⟩ htr
end
end Pyr

set_option Elab.async false
set_option autoImplicit false
set_option linter.all false
set_option maxRecDepth 100000
set_option maxHeartbeats 2000000
namespace Pyr
open PySem PySem.Spec PyProof.Rows L2 Evl
section
variable {X : Cx} {elt tg iter : Expr} {ifs : List Expr} {scope : Scope} {own : List (Str × Nat)} {gpos : Pos} {wi : TI} {g : TG} {tt : TT} {te : TE} {c P : Addr} {k : Nat}
theorem pe_gx_all {p pos : Pos} (hr : Room (k + 1) X.A) (hc : X.calm = true) (hN : X.N.Nodup) (hgl : Gl X "all") (hm : X.mg "all" = none) (TB : GxR.TabB X.base X.mg c P) (hcode : X.env.code = .ref c) (hi : PI X tg iter wi) (ok : BlkOk X.N X.env.scope scope own) (hcell : ∀ y ∈ scope.names, y.2 ≠ .cell) (hco : scope.isCoroutine = false) (hdot : scope.names.lookup (".0" : Str) = some NameKind.local) (hdN : (".0" : Str) ∉ X.N)
    (hg : ∀ (A' : Around) (s : Shared) (H : Hp) (cl : List (Str × Addr)) (C : Addr) (code : Value) (fp : List Addr) (pn : List (Addr × Obj)), Room k A' → PG (gxX X A' s H (gxE X scope cl C code) fp pn) tg g)
    (ht : ∀ (A' : Around) (s : Shared) (H : Hp) (cl : List (Str × Addr)) (C : Addr) (code : Value) (fp : List Addr) (pn : List (Addr × Obj)), Room k A' → PTs (gxX X A' s H (gxE X scope cl C code) fp pn) ifs tt)
    (he : ∀ (A' : Around) (s : Shared) (H : Hp) (cl : List (Str × Addr)) (C : Addr) (code : Value) (fp : List Addr) (pn : List (Addr × Obj)), Room k A' → PE (gxX X A' s H (gxE X scope cl C code) fp pn) elt te)
    (hs : ∀ v, genFold iter X.env v = pure v)
    (hst : starEach [.GeneratorExp elt [⟨tg, iter, ifs, 0⟩] scope gpos] X.env = (false, eval (.GeneratorExp elt [⟨tg, iter, ifs, 0⟩] scope gpos) X.env) :: starEach [] X.env := by rfl) :
    PE X (.Call (.Name "all" p) [.GeneratorExp elt [⟨tg, iter, ifs, 0⟩] scope gpos] [] pos) (tGx P true wi g tt te (own.map (·.2))) := by
  refine ⟨fun pins s σ H Q I h => ?_⟩
  refine wpAny_Call_Name_kw (ld_blt I hgl hm boot_all ?_)
  refine PyProof.Rows.callWith_builtin1 ?_ hst (by rfl)
  rw [hst]
  show wpAny _ _ (spliced ((false, eval (.GeneratorExp elt [⟨tg, iter, ifs, 0⟩] scope gpos) X.env) :: backTo pos (starEach [] X.env))) _ _ s
  refine Calls.spliced_cons (gx_make hr hc hN TB hcode hi ok hcell hco hdot hdN hg ht he hs I h fun a s5 hG => ?_)
  obtain ⟨A', s4, H4, cenv, fp, pn, gi, n, hg1, hl, hgo, hY, hR⟩ := hG
  refine Calls.spliced_nil ?_
  refine call_function_tree F.kind_all F.plain_all F.entry_all (F.args_all1 _) ?_
  unfold Builtin.«all»
  refine wpAny_bind (m := oneArg "all" _) (wpAny_pure ?_)
  refine wpAny_bind (wpAny_pyIter_gen hg1 ?_)
  refine wpAny_pure ⟨plainId_quiet F.plain_all_loop _, ?_⟩
  exact gx_drain_all (Y := gxX X A' s4 H4 cenv fp pn) (A1 := X.A) (Q := Q) hr.hd (by have := hr.dp; omega) hY (fun c pl σ' H' s' h' gens' I' q hb hk => hR c pl σ' H' s' h' gens' I' q hb hk) n s5 hg1 hl hgo
theorem pe_gx_any {p pos : Pos} (hr : Room (k + 1) X.A) (hc : X.calm = true) (hN : X.N.Nodup) (hgl : Gl X "any") (hm : X.mg "any" = none) (TB : GxR.TabB X.base X.mg c P) (hcode : X.env.code = .ref c) (hi : PI X tg iter wi) (ok : BlkOk X.N X.env.scope scope own) (hcell : ∀ y ∈ scope.names, y.2 ≠ .cell) (hco : scope.isCoroutine = false) (hdot : scope.names.lookup (".0" : Str) = some NameKind.local) (hdN : (".0" : Str) ∉ X.N)
    (hg : ∀ (A' : Around) (s : Shared) (H : Hp) (cl : List (Str × Addr)) (C : Addr) (code : Value) (fp : List Addr) (pn : List (Addr × Obj)), Room k A' → PG (gxX X A' s H (gxE X scope cl C code) fp pn) tg g)
    (ht : ∀ (A' : Around) (s : Shared) (H : Hp) (cl : List (Str × Addr)) (C : Addr) (code : Value) (fp : List Addr) (pn : List (Addr × Obj)), Room k A' → PTs (gxX X A' s H (gxE X scope cl C code) fp pn) ifs tt)
    (he : ∀ (A' : Around) (s : Shared) (H : Hp) (cl : List (Str × Addr)) (C : Addr) (code : Value) (fp : List Addr) (pn : List (Addr × Obj)), Room k A' → PE (gxX X A' s H (gxE X scope cl C code) fp pn) elt te)
    (hs : ∀ v, genFold iter X.env v = pure v)
    (hst : starEach [.GeneratorExp elt [⟨tg, iter, ifs, 0⟩] scope gpos] X.env = (false, eval (.GeneratorExp elt [⟨tg, iter, ifs, 0⟩] scope gpos) X.env) :: starEach [] X.env := by rfl) :
    PE X (.Call (.Name "any" p) [.GeneratorExp elt [⟨tg, iter, ifs, 0⟩] scope gpos] [] pos) (tGx P false wi g tt te (own.map (·.2))) := by
  refine ⟨fun pins s σ H Q I h => ?_⟩
  refine wpAny_Call_Name_kw (ld_blt I hgl hm boot_any ?_)
  refine PyProof.Rows.callWith_builtin1 ?_ hst (by rfl)
  rw [hst]
  show wpAny _ _ (spliced ((false, eval (.GeneratorExp elt [⟨tg, iter, ifs, 0⟩] scope gpos) X.env) :: backTo pos (starEach [] X.env))) _ _ s
  refine Calls.spliced_cons (gx_make hr hc hN TB hcode hi ok hcell hco hdot hdN hg ht he hs I h fun a s5 hG => ?_)
  obtain ⟨A', s4, H4, cenv, fp, pn, gi, n, hg1, hl, hgo, hY, hR⟩ := hG
  refine Calls.spliced_nil ?_
  refine call_function_tree F.kind_any F.plain_any F.entry_any (F.args_any1 _) ?_
  unfold Builtin.«any»
  refine wpAny_bind (m := oneArg "any" _) (wpAny_pure ?_)
  refine wpAny_bind (wpAny_pyIter_gen hg1 ?_)
  refine wpAny_pure ⟨plainId_quiet F.plain_any_loop _, ?_⟩
  exact gx_drain_any (Y := gxX X A' s4 H4 cenv fp pn) (A1 := X.A) (Q := Q) hr.hd (by have := hr.dp; omega) hY (fun c pl σ' H' s' h' gens' I' q hb hk => hR c pl σ' H' s' h' gens' I' q hb hk) n s5 hg1 hl hgo
end
end Pyr

set_option Elab.async false
set_option autoImplicit false
set_option linter.all false
set_option maxRecDepth 100000
set_option maxHeartbeats 2000000
namespace Pyr
open PySem PySem.Spec PyProof.Rows L2 Evl

theorem takesF {X : Cx} : Takes X (fun _ _ _ _ => False) := fun u s' x => by
  obtain ⟨_, _, _, _, _, _, _, _, _, _, _, _, _, _, _, _, w⟩ := x
  exact w.elim
def gxF (isAll : Bool) (t : Tg) (tt : En → Res Bool) (fe : En → Res D) (ρ : En) : List D → Res D
  | [] => .ok (.bool isAll)
  | d :: ds => (tgE t d ρ).bind fun ρ1 => (noX (tt ρ1)).bind fun b => if b then (noX (fe ρ1)).bind fun y => (boolD y).bind fun c => if c = isAll then gxF isAll t tt fe ρ ds else .ok (.bool c) else gxF isAll t tt fe ρ ds
def eGx (isAll : Bool) (own : List Nat) (t : Tg) (fi : En → Res (List D)) (tt : En → Res Bool) (fe : En → Res D) : En → Res D := fun ρ => (fi ρ).bind fun ds => gxF isAll t tt fe (wipeE ρ own) ds
theorem boolD_exc {y : D} {c : Str} {fs : List (Str × D)} : ¬ boolD y = .exc c fs := by
  cases y <;> intro h <;> cases h
theorem gxF_exc {isAll : Bool} {t : Tg} {tt : En → Res Bool} {fe : En → Res D} {ρ : En} {c : Str} {fs : List (Str × D)} : ∀ ds : List D, ¬ gxF isAll t tt fe ρ ds = .exc c fs
  | [], h => by cases h
  | d :: ds, h => by
    have h : ((tgE t d ρ).bind fun ρ1 => (noX (tt ρ1)).bind fun b => if b then (noX (fe ρ1)).bind fun y => (boolD y).bind fun c => if c = isAll then gxF isAll t tt fe ρ ds else .ok (.bool c) else gxF isAll t tt fe ρ ds) = .exc c fs := h
    cases h1 : tgE t d ρ with
    | exc c' fs' => exact tgE_exc h1
    | bad => rw [h1] at h; cases h
    | ok ρ1 =>
      rw [h1, bind_ok] at h
      cases h2 : tt ρ1 with
      | exc c' fs' => rw [h2] at h; cases h
      | bad => rw [h2] at h; cases h
      | ok b =>
        rw [h2] at h
        have h : (if b then (noX (fe ρ1)).bind fun y => (boolD y).bind fun c => if c = isAll then gxF isAll t tt fe ρ ds else .ok (.bool c) else gxF isAll t tt fe ρ ds) = .exc c fs := h
        cases b with
        | false => exact gxF_exc ds h
        | true =>
          have h : ((noX (fe ρ1)).bind fun y => (boolD y).bind fun c => if c = isAll then gxF isAll t tt fe ρ ds else .ok (.bool c)) = .exc c fs := h
          cases h3 : fe ρ1 with
          | exc c' fs' => rw [h3] at h; cases h
          | bad => rw [h3] at h; cases h
          | ok y =>
            rw [h3] at h
            have h : ((boolD y).bind fun c => if c = isAll then gxF isAll t tt fe ρ ds else .ok (.bool c)) = .exc c fs := h
            cases h4 : boolD y with
            | exc c' fs' => exact boolD_exc h4
            | bad => rw [h4] at h; cases h
            | ok cb =>
              rw [h4, bind_ok] at h
              split at h
              · exact gxF_exc ds h
              · cases h
section
variable {TS : TabList} {X : Cx} {tg iter elt : Expr} {fi : En → Res (List D)} {tt : En → Res Bool} {fe : En → Res D} {ifs : List Expr} {pos : Pos} {t : Tg} {scope : Scope} {own : List (Str × Nat)} {k : Nat}
def gxT (X : Cx) (k : Nat) (scope : Scope) (ifs : List Expr) : TT := fun σ H Q => ∀ (A' : Around) (s : Shared) (H0 : Hp) (cl : List (Str × Addr)) (C : Addr) (code : Value) (fp : List Addr) (pn : List (Addr × Obj)), Room k A' → wpTs (gxX X A' s H0 (gxE X scope cl C code) fp pn) ifs σ H Q
def gxEl (X : Cx) (k : Nat) (scope : Scope) (elt : Expr) : TE := fun σ H Q => ∀ (A' : Around) (s : Shared) (H0 : Hp) (cl : List (Str × Addr)) (C : Addr) (code : Value) (fp : List Addr) (pn : List (Addr × Obj)), Room k A' → wpE (gxX X A' s H0 (gxE X scope cl C code) fp pn) elt σ H Q
theorem gr_tab {G H H' : Hp} {P : Addr} (hP : P ∈ TS) (ok : Ok0 TS G H) (h : GxR.Tabbed P H H') : Gr TS G H G H' := by
  obtain ⟨⟨ps, h1, h2⟩, h3⟩ := h
  obtain ⟨qs, q1, _⟩ := ok.tb P hP
  refine ⟨Ex.refl G, ⟨fun a o e n => ?_, fun a e => ?_⟩, fun _ h => .inl h, ⟨fun a o e => ?_, fun P' hP' => ?_, ok.nt⟩⟩
  · by_cases z : a = P
    · subst z
      rw [q1] at e
      cases e
      exact absurd rfl (n qs)
    · rw [h3 a z]
      exact e
  · by_cases z : a = P
    · subst z
      rw [h1] at e
      cases e
    · rw [← h3 a z]
      exact e
  · by_cases z : a = P
    · subst z
      have e2 := ok.le _ _ e
      rw [q1] at e2
      cases e2
      have := ok.nt _ _ e
      cases this
    · rw [h3 a z]
      exact ok.le _ _ e
  · by_cases z : P' = P
    · subst z
      exact ⟨ps, h1, h2⟩
    · rw [h3 P' z]
      exact ok.tb P' hP'
theorem gx_core {W : WX} {ρ : En} {σ : L2.St} {G H : Hp} {Q : VK} {P : Addr} {isAll : Bool} (hP : P ∈ TS) (hi : DI TS X tg iter fi) (ho : ∀ i ∈ t.all, i ∈ own.map (·.2))
    (ht : ∀ (A' : Around) (s : Shared) (H : Hp) (cl : List (Str × Addr)) (C : Addr) (code : Value) (fp : List Addr) (pn : List (Addr × Obj)), Room k A' → DTs TS (gxX X A' s H (gxE X scope cl C code) fp pn) ifs tt)
    (he : ∀ (A' : Around) (s : Shared) (H : Hp) (cl : List (Str × Addr)) (C : Addr) (code : Value) (fp : List Addr) (pn : List (Addr × Obj)), Room k A' → DE TS (gxX X A' s H (gxE X scope cl C code) fp pn) elt fe)
    (tk : Takes X W) (re : RpE TS X.K G H ρ σ) (ok : Ok0 TS G H) (post : PostG (RelE X.K) TS X W σ G H (eGx isAll (own.map (·.2)) t fi tt fe ρ) Q) :
    tGx P isAll (wpIt X tg iter) (gTg X.K t) (gxT X k scope ifs) (gxEl X k scope elt) (own.map (·.2)) σ H Q := by
  refine bindP (wp := fun R => wpIt X tg iter σ H R) back_E (fun Q' p => hi W ρ σ G H Q' tk re ok p) post fun J ds G1 H1 _ g1 wk p => ?_
  refine ⟨?_, fun H1' hT => ?_⟩
  · obtain ⟨ps, e1, e2⟩ := g1.ok.tb P hP
    exact ⟨ps, e1, e2⟩
  have gT := gr_tab hP g1.ok hT
  have p := PostG.shift back_E gT p
  have reW : ∀ {G' H' : Hp}, Gr TS G1 H1' G' H' → RpE TS X.K G' H' (wipeE ρ (own.map (·.2))) (wipe σ (own.map (·.2))) := fun e => (((re.mono g1).mono gT).mono e).wipe _
  generalize hρ : wipeE ρ (own.map (·.2)) = ρ0 at p reW
  have fin : ∀ {i : Nat} {r : Res D}, gxF isAll t tt fe ρ0 (ds.drop i) = r → gxF isAll t tt fe ρ0 ds = r → True := fun _ _ => trivial
  cases ht0 : gxF isAll t tt fe ρ0 ds with
  | exc c fs => exact (gxF_exc ds ht0).elim
  | bad =>
    rw [ht0] at p
    exact p.elim
  | ok total =>
    rw [ht0] at p
    refine ⟨fun i m H => m = ds.length - i ∧ i ≤ ds.length ∧ ∃ Gi, Gr TS G1 H1' Gi H ∧ gxF isAll t tt fe ρ0 (ds.drop i) = .ok total,
      ⟨ds.length, by simp, Nat.zero_le _, G1, Gr.refl gT.ok, by rw [List.drop_zero]; exact ht0⟩, ?_⟩
    rintro i m H2 ⟨rfl, hi2, Gi, gi, hr⟩
    obtain ⟨w1, w2⟩ := wk Gi H2 gi.g gi.ok
    by_cases hlt : i < ds.length
    · have hx : ds[i]? = some ds[i] := List.getElem?_eq_getElem hlt
      have hd : ds.drop i = ds[i] :: ds.drop (i + 1) := List.drop_eq_getElem_cons hlt
      rw [hd] at hr
      obtain ⟨h1, h2⟩ := w1 i _ hx
      refine .inr ⟨h1, fun H' => ∃ Gi, Gr TS G1 H1' Gi H' ∧ gxF isAll t tt fe ρ0 (ds.drop (i + 1)) = .ok total, fun H' h => ⟨ds.length - (i + 1), by omega, rfl, hlt, h⟩, fun v H' y => ?_⟩
      obtain ⟨G', g, r⟩ := h2 v H' y
      have hr : ((tgE t ds[i] ρ0).bind fun ρ1 => (noX (tt ρ1)).bind fun b => if b then (noX (fe ρ1)).bind fun y => (boolD y).bind fun c => if c = isAll then gxF isAll t tt fe ρ0 (ds.drop (i + 1)) else .ok (.bool c) else gxF isAll t tt fe ρ0 (ds.drop (i + 1))) = .ok total := hr
      cases e1 : tgE t ds[i] ρ0 with
      | exc c fs => exact (tgE_exc e1).elim
      | bad => rw [e1] at hr; cases hr
      | ok ρ1 =>
        rw [e1, bind_ok] at hr
        refine gTg_ok g.ok ho r (reW (gi.trans g)) e1 fun σ2 re2 hw => ?_
        rw [wipe_wipe] at hw
        refine ⟨hw, fun A' s' H0' cl' C' code' fp' pn' hroom => ?_⟩
        refine ht A' s' H0' cl' C' code' fp' pn' hroom (fun _ _ _ _ => False) ρ1 σ2 G' H' _ takesF re2 g.ok ?_
        cases e2 : tt ρ1 with
        | exc c fs => rw [e2] at hr; cases hr
        | bad => rw [e2] at hr; cases hr
        | ok b =>
          rw [e2] at hr
          intro b' G3 H3 g3 eb
          subst eb
          cases b' with
          | false => exact iteF ⟨G3, (gi.trans g).trans g3, hr⟩
          | true =>
            refine iteT fun A' s' H0' cl' C' code' fp' pn' hroom => ?_
            have hr : ((noX (fe ρ1)).bind fun y => (boolD y).bind fun c => if c = isAll then gxF isAll t tt fe ρ0 (ds.drop (i + 1)) else .ok (.bool c)) = .ok total := hr
            refine he A' s' H0' cl' C' code' fp' pn' hroom (fun _ _ _ _ => False) ρ1 σ2 G3 H3 _ takesF (re2.mono g3) g3.ok ?_
            cases e3 : fe ρ1 with
            | exc c fs => rw [e3] at hr; cases hr
            | bad => rw [e3] at hr; cases hr
            | ok yd =>
              rw [e3] at hr
              have hr : ((boolD yd).bind fun c => if c = isAll then gxF isAll t tt fe ρ0 (ds.drop (i + 1)) else .ok (.bool c)) = .ok total := hr
              intro yv G4 H4 g4 ry
              cases ry with
              | bl cb =>
                have hr : (if cb = isAll then gxF isAll t tt fe ρ0 (ds.drop (i + 1)) else .ok (.bool cb)) = .ok total := hr
                refine ⟨cb, rfl, ?_⟩
                have gg := ((gi.trans g).trans g3).trans g4
                split
                · rename_i hc
                  rw [if_pos hc] at hr
                  exact ⟨G4, gg, hr⟩
                · rename_i hc
                  rw [if_neg hc] at hr
                  cases hr
                  exact p _ G4 H4 gg (.bl cb)
              | _ => cases hr
    · have e : i = ds.length := by omega
      subst e
      rw [List.drop_length] at hr
      cases hr
      exact .inl ⟨w2, p _ Gi H2 gi (.bl isAll)⟩
theorem de_gx_all {p gpos : Pos} {c P : Addr} (C : CtE X) (hr : Room (k + 1) X.A) (hgl : Gl X "all") (hm : X.mg "all" = none) (TB : GxR.TabB X.base X.mg c P) (hP : P ∈ TS) (hcode : X.env.code = .ref c) (hi : DI TS X tg iter fi) (ok : BlkOk X.N X.env.scope scope own) (ho : ∀ i ∈ t.all, i ∈ own.map (·.2)) (hcell : ∀ y ∈ scope.names, y.2 ≠ .cell) (hco : scope.isCoroutine = false) (hdot : scope.names.lookup (".0" : Str) = some NameKind.local) (hdN : (".0" : Str) ∉ X.N)
    (hg : ∀ (A' : Around) (s : Shared) (H : Hp) (cl : List (Str × Addr)) (C : Addr) (code : Value) (fp : List Addr) (pn : List (Addr × Obj)), Room k A' → PG (gxX X A' s H (gxE X scope cl C code) fp pn) tg (gTg X.K t))
    (ht : ∀ (A' : Around) (s : Shared) (H : Hp) (cl : List (Str × Addr)) (C : Addr) (code : Value) (fp : List Addr) (pn : List (Addr × Obj)), Room k A' → DTs TS (gxX X A' s H (gxE X scope cl C code) fp pn) ifs tt)
    (he : ∀ (A' : Around) (s : Shared) (H : Hp) (cl : List (Str × Addr)) (C : Addr) (code : Value) (fp : List Addr) (pn : List (Addr × Obj)), Room k A' → DE TS (gxX X A' s H (gxE X scope cl C code) fp pn) elt fe)
    (hs : ∀ v, genFold iter X.env v = pure v := by intro _; rfl)
    (hst : starEach [.GeneratorExp elt [⟨tg, iter, ifs, 0⟩] scope gpos] X.env = (false, eval (.GeneratorExp elt [⟨tg, iter, ifs, 0⟩] scope gpos) X.env) :: starEach [] X.env := by rfl) :
    DE TS X (.Call (.Name "all" p) [.GeneratorExp elt [⟨tg, iter, ifs, 0⟩] scope gpos] [] pos) (eGx true (own.map (·.2)) t fi tt fe) := by
  refine ⟨?_⟩
  intro W ρ σ G H Q tk re k0 post
  exact wpE_of (pe_gx_all hr C.calm C.nd hgl hm TB hcode (pi_wp X tg iter) ok hcell hco hdot hdN hg (fun A' s H cl C code fp pn hroom => ⟨fun pins s1 σ H1 Q I h => h A' s H cl C code fp pn hroom pins s1 I⟩) (fun A' s H cl C code fp pn hroom => ⟨fun pins s1 σ H1 Q I h => h A' s H cl C code fp pn hroom pins s1 I⟩) hs hst) (gx_core (elt := elt) hP hi ho ht he tk re k0 post)
theorem de_gx_any {p gpos : Pos} {c P : Addr} (C : CtE X) (hr : Room (k + 1) X.A) (hgl : Gl X "any") (hm : X.mg "any" = none) (TB : GxR.TabB X.base X.mg c P) (hP : P ∈ TS) (hcode : X.env.code = .ref c) (hi : DI TS X tg iter fi) (ok : BlkOk X.N X.env.scope scope own) (ho : ∀ i ∈ t.all, i ∈ own.map (·.2)) (hcell : ∀ y ∈ scope.names, y.2 ≠ .cell) (hco : scope.isCoroutine = false) (hdot : scope.names.lookup (".0" : Str) = some NameKind.local) (hdN : (".0" : Str) ∉ X.N)
    (hg : ∀ (A' : Around) (s : Shared) (H : Hp) (cl : List (Str × Addr)) (C : Addr) (code : Value) (fp : List Addr) (pn : List (Addr × Obj)), Room k A' → PG (gxX X A' s H (gxE X scope cl C code) fp pn) tg (gTg X.K t))
    (ht : ∀ (A' : Around) (s : Shared) (H : Hp) (cl : List (Str × Addr)) (C : Addr) (code : Value) (fp : List Addr) (pn : List (Addr × Obj)), Room k A' → DTs TS (gxX X A' s H (gxE X scope cl C code) fp pn) ifs tt)
    (he : ∀ (A' : Around) (s : Shared) (H : Hp) (cl : List (Str × Addr)) (C : Addr) (code : Value) (fp : List Addr) (pn : List (Addr × Obj)), Room k A' → DE TS (gxX X A' s H (gxE X scope cl C code) fp pn) elt fe)
    (hs : ∀ v, genFold iter X.env v = pure v := by intro _; rfl)
    (hst : starEach [.GeneratorExp elt [⟨tg, iter, ifs, 0⟩] scope gpos] X.env = (false, eval (.GeneratorExp elt [⟨tg, iter, ifs, 0⟩] scope gpos) X.env) :: starEach [] X.env := by rfl) :
    DE TS X (.Call (.Name "any" p) [.GeneratorExp elt [⟨tg, iter, ifs, 0⟩] scope gpos] [] pos) (eGx false (own.map (·.2)) t fi tt fe) := by
  refine ⟨?_⟩
  intro W ρ σ G H Q tk re k0 post
  exact wpE_of (pe_gx_any hr C.calm C.nd hgl hm TB hcode (pi_wp X tg iter) ok hcell hco hdot hdN hg (fun A' s H cl C code fp pn hroom => ⟨fun pins s1 σ H1 Q I h => h A' s H cl C code fp pn hroom pins s1 I⟩) (fun A' s H cl C code fp pn hroom => ⟨fun pins s1 σ H1 Q I h => h A' s H cl C code fp pn hroom pins s1 I⟩) hs hst) (gx_core (elt := elt) hP hi ho ht he tk re k0 post)
end
end Pyr

set_option Elab.async false
set_option autoImplicit false
set_option linter.all false
set_option maxRecDepth 100000
set_option maxHeartbeats 2000000
namespace Pyr
open PySem PySem.Spec PyProof.Rows L2 Evl

/-! ### defs whose code object is known -/
structure FunC (K : PySem.W.Frag) (x : Str) (st : Stmt) (f : Addr) (fd : FuncData) (cdv : Value) : Prop where
  ex : ∃ (oc : Value) (od : Option Addr) (kV doc pm : Value) (an : Option Addr) (ct : Value) (osl : Array (Option Value)),
    fd = PySem.W.fnOf x x (defArgs st) (defBody st) (defScope st) .none kV doc pm an cdv ct ∧ K.lookup f = some ⟨oc, od, .func fd, osl⟩ ∧ PySem.W.codeIn K cdv x = true
  kp : PySem.W.keepIn K (.ref f) = true
def DfnC (K : PySem.W.Frag) (mg : Str → Option Value) (x : Str) (st : Stmt) (ps : List Str) (cdv : Value) : Prop := ∃ f fd, FunC K x st f fd cdv ∧ mg x = some (.ref f) ∧ Binds K fd ps []
def DefInC (K : PySem.W.Frag) (x : Str) (st : Stmt) (cdv : Value) : Prop := ∃ (f : Addr) (oc : Value) (od an : Option Addr) (sl : Array (Option Value)) (kV doc pm ct : Value),
  PySem.W.nsIn K mainGlobals x = some (some (.ref f)) ∧ K.lookup f = some ⟨oc, od, .func (PySem.W.fnOf x x (defArgs st) (defBody st) (defScope st) .none kV doc pm an cdv ct), sl⟩ ∧ PySem.W.codeIn K cdv x = true ∧ PySem.W.keepIn K (.ref f) = true
theorem DefInC.dfn {K : PySem.W.Frag} {mg : Str → Option Value} {h : Heap} {x : Str} {st : Stmt} {ps : List Str} {cdv : Value} (d : DefInC K x st cdv) (X : K.In h) (G : h.Ns mainGlobals mg) (b : BindOk x st ps) : DfnC K mg x st ps cdv := by
  obtain ⟨f, oc, od, an, sl, kV, doc, pm, ct, h1, h2, h3, h4⟩ := d
  exact ⟨f, _, ⟨⟨oc, od, kV, doc, pm, an, ct, sl, rfl, h2, h3⟩, h4⟩, PySem.W.mg_of X G h1, (fun_mk h2 h3 h4).binds b⟩
theorem fnok_mkC {TS : TabList} {P : Program} {w : World} {K : PySem.W.Frag} {mg : Str → Option Value} {base : Heap} {x : Str} {st : Stmt} {f : Addr} {fd : FuncData} {cdv : Value} {N ps : List Str} {k : Nat} {F : Frm → Res Fl} (Fn : FunC K x st f fd cdv) (S : FnScope N ps (defScope st))
    (body : ∀ (A : Around) (outer : List Env) (s : Shared) (H : Hp) (E : XK), Room k (A.deeper (envOfC x (defScope st) s.heap.objs.size f cdv)) → DSs TS (cxOf (L2.CX P w) P w K mg base N x (defScope st) f cdv A outer s H E) (defBody st) F) :
    FnOk P w K mg base (L2.CX P w) (k + 1) f fd ps (spD TS K mg (defM ps.length N.length F)) := by
  obtain ⟨⟨oc, od, kV, doc, pm, an, ct, osl, rfl, lk, hcd⟩, _⟩ := Fn
  refine fn_of lk hcd S (fun vs H Q E h => ?_) (fun A outer s H vs Q E hr h => ?_)
  · obtain ⟨G, ds, r, ok, p⟩ := h
    unfold defM at p
    split at p
    · rename_i e
      rw [r.len, e]
    · exact p.elim
  · obtain ⟨G, ds, r, ok, p⟩ := h
    unfold defM at p
    split at p
    · refine ⟨_, pss_wp _ _, body A outer s H E hr (fun cls d _ H => E cls d H) (frm0 N.length ds) (L2.start N vs) G H G H (fun _ => []) _ (takes_of rfl rfl rfl rfl) (SI.start ok r) ?_⟩
      cases hf : F (frm0 N.length ds) with
      | ok fl =>
        rw [hf] at p
        cases fl with
        | next ρ => exact fun σ' G' H' fp' _ s' => p .non G' H' s'.gr .non
        | ret rv =>
          cases rv with
          | val d => exact p
          | own ds => exact p
          | ownU dss => exact p
        | brk ρ => exact p.elim
        | cont ρ => exact p.elim
      | exc c fs =>
        rw [hf] at p
        exact fun C d _ G' H' m g r => p C d G' H' m g r
      | bad =>
        rw [hf] at p
        exact p.elim
    · exact p.elim
theorem known_ofC {TS : TabList} {P : Program} {w : World} {K : PySem.W.Frag} {mg : Str → Option Value} {base : Heap} {x : Str} {st : Stmt} {cdv : Value} {N ps : List Str} {k : Nat} {F : Frm → Res Fl} (d : DfnC K mg x st ps cdv) (S : FnScope N ps (defScope st))
    (body : ∀ (f : Addr) (A : Around) (outer : List Env) (s : Shared) (H : Hp) (E : XK), Room k (A.deeper (envOfC x (defScope st) s.heap.objs.size f cdv)) → DSs TS (cxOf (L2.CX P w) P w K mg base N x (defScope st) f cdv A outer s H E) (defBody st) F) :
    Known TS P w K mg base (k + 1) x ps (defM ps.length N.length F) := by
  obtain ⟨f, fd, F1, hm, hb⟩ := d
  exact ⟨f, fd, fnok_mkC F1 S (body f), hm, F1.kp, hb⟩
theorem CtE.gx {X : Cx} {A' : Around} {s : Shared} {H : Hp} {cenv : Env} {fp : List Addr} {pn : List (Addr × Obj)} {k : Nat} (C : CtE X) (hr : Room k A') : CtE (gxX X A' s H cenv fp pn) := ⟨C.calm, C.nd, room_ct hr⟩

/-! ### the law's end, with tables -/
def spLawT (K : PySem.W.Frag) (TS : List Addr) : Sp := fun vs H Q _ => ∃ (a : Addr) (ns : List Int), vs = [.ref a] ∧ SqL K H a (ns.map V.int) ∧ ns.length ≤ 63 ∧ (∀ P ∈ TS, H P = some (.tbl #[])) ∧ ∀ H', Q (.bl true) H'
theorem sql_noTb {K : PySem.W.Frag} {H : Hp} {a : Addr} {xs : List V} (h : SqL K H a xs) : SqL K (noTb H) a xs := by
  rcases h with (h | ⟨o, h⟩) | ⟨o, its, n, h, hc, r⟩
  · exact .inl (.inl (noTb_some.mpr ⟨h, rfl⟩))
  · exact .inl (.inr ⟨o, noTb_some.mpr ⟨h, rfl⟩⟩)
  · exact .inr ⟨o, its, n, h, hc, r⟩
theorem law_impT {TS : TabList} {P : Program} {w : World} {K : PySem.W.Frag} {mg : Str → Option Value} {base : Heap} {k : Nat} {f : Addr} {fd : FuncData} {ps : List Str} {m : List D → Res RV} (F : FnOk P w K mg base (L2.CX P w) k f fd ps (spD TS K mg m))
    (hm : ∀ ns : List Int, ns.length ≤ 63 → m [scriptD ns] = .ok (.val (.bool true))) : FnOk P w K mg base (L2.CX P w) k f fd ps (spLawT K TS.l) := by
  refine F.imp fun vs H Q E h => ?_
  obtain ⟨a, ns, rfl, hs, hl, ht, q⟩ := h
  refine ⟨noTb H, [scriptD ns], .cons (.lst (sql_noTb hs) (rps_ints ns)) .nil, ⟨noTb_ex H, fun P hP => ⟨#[], ht P hP, trivial⟩, fun _ _ h => (noTb_some.mp h).2⟩, ?_⟩
  rw [hm ns hl]
  intro v G' H' _ r
  cases r
  exact q H'
theorem law_endT {l : PySem.W.OpenLaw} {k : Nat} {q : Program} {loose : List Str} {XP : (Str → Option Value) → Heap → Prop} {YP : World → Heap → Prop} {d : DefRec} {K : Params → PySem.W.Frag} {x : Str}
    (hn : l.most = some 63) (hdf : d.params.defaults = []) (hr : Room k callerA) (hY : ∀ (w : World) (h : Heap), YP w h → (K w.params).In h)
    (F : ∀ (w : World) (mg : Str → Option Value) (fa : Addr) (h : Heap), (K w.params).In h → h.Ns mainGlobals mg → mg d.name = some (.ref fa) →
      (∀ (y : Str) (dd : DefRec) (c P : Addr), (recsOf q).find? (fun e => e.name == y) = some dd → PySem.W.tabIn (K w.params) y = some (c, P) → PySem.W.CodeHd h c P ∧ h.get? P = some (PySem.W.tabObj #[])) →
      ∃ (fd : FuncData) (cs : List (Addr × Addr)), (∀ p ∈ cs, PySem.W.CodeHd h p.1 p.2 ∧ h.get? p.2 = some (PySem.W.tabObj #[])) ∧ (∀ p ∈ cs, (K w.params).lookup p.2 = none) ∧ (∀ (s : Shared) (u : Value), BindsTo s fd ⟨[u], []⟩ [(x, u)]) ∧
        ∀ base : Heap, (K w.params).In base → base.Ns mainGlobals mg → (∀ p ∈ cs, GxR.TabB base mg p.1 p.2) → FnOk l.prog w (K w.params) mg base (L2.CX l.prog w) k fa fd [x] (spLawT (K w.params) (cs.map (·.2)))) :
    PySem.W.WalkO q loose XP YP l.row.toRowW d [] (fun f vs => PySem.call f vs) := by
  refine Att.attach_callB (n := 63) hn hdf fun w s₀ s₁ mg mb fa o pm cd doc a vs ns G Y ho hd hcd hmg hobj hints hlen hbits hg => ?_
  have KX := hY w _ Y
  obtain ⟨fd, cs, hT, nT, hb, hF⟩ := F w mg fa _ KX G.T.g hmg fun y dd c P h1 h2 => PySem.W.tab_of G.T KX h1 h2
  exact LamX.law_callTs KX G.T.g G.T.b G.T.builtins G.T.nolimit hg (fun p hp => (hT p hp).2) nT (fun p hp => (hT p hp).1) G.T.bmain hobj hints (Nat.le_trans hlen (by decide)) hr (fun base h1 h2 h3 => hF base h1 h2 fun p hp => ⟨(h3 p hp).code, (h3 p hp).bm, (h3 p hp).gP⟩) hb
    (fun H hH hS => ⟨a, ns, rfl, hS, hlen, fun P hP => by
      obtain ⟨p, hp, rfl⟩ := List.mem_map.mp hP
      exact hH p hp, fun _ => rfl⟩) fun H e s' h => by
      obtain ⟨_, _, _, _, _, _, _, _, _, _, _, _, z⟩ := h
      exact z
end Pyr

set_option Elab.async false
set_option autoImplicit false
set_option linter.all false
set_option maxRecDepth 100000
set_option maxHeartbeats 2000000
namespace Pyr
open PySem PySem.Spec PyProof.Rows L2 Evl

theorem law_finT {P : Program} {w : World} {K : PySem.W.Frag} {mg : Str → Option Value} {h : Heap} {st : Stmt} {fa : Addr} {x : Str} {k : Nat} {m : List D → Res RV} {cs : List (Addr × Addr)} (X : K.In h) (G : h.Ns mainGlobals mg) (hfa : mg "law" = some (.ref fa)) (d : DefIn K "law" st) (b : BindOk "law" st [x])
    (hT : ∀ p ∈ cs, PySem.W.CodeHd h p.1 p.2 ∧ h.get? p.2 = some (PySem.W.tabObj #[])) (nT : ∀ p ∈ cs, K.lookup p.2 = none)
    (F : ∀ (base : Heap), (∀ p ∈ cs, GxR.TabB base mg p.1 p.2) → ∀ (f : Addr) (fd : FuncData), L2.Fun K "law" "law" st f fd → FnOk P w K mg base (L2.CX P w) k f fd [x] (spD ⟨cs.map (·.2), P, w⟩ K mg m)) (hm : ∀ ns : List Int, ns.length ≤ 63 → m [scriptD ns] = .ok (.val (.bool true))) :
    ∃ (fd : FuncData) (cs : List (Addr × Addr)), (∀ p ∈ cs, PySem.W.CodeHd h p.1 p.2 ∧ h.get? p.2 = some (PySem.W.tabObj #[])) ∧ (∀ p ∈ cs, K.lookup p.2 = none) ∧ (∀ (s : Shared) (u : Value), BindsTo s fd ⟨[u], []⟩ [(x, u)]) ∧
        ∀ base : Heap, K.In base → base.Ns mainGlobals mg → (∀ p ∈ cs, GxR.TabB base mg p.1 p.2) → FnOk P w K mg base (L2.CX P w) k fa fd [x] (spLawT K (cs.map (·.2))) := by
  obtain ⟨f, oc, od, an, sl, kV, doc, pm, cd, ct, h1, h2, h3, h4⟩ := d
  have e := hfa.symm.trans (PySem.W.mg_of X G h1)
  cases e
  exact ⟨_, cs, hT, nT, fun s u => .of_eq (b kV doc pm an cd ct [u] rfl), fun base _ _ ht => law_impT (F base ht fa _ (fun_mk h2 h3 h4)) hm⟩
theorem law_finC {P : Program} {w : World} {K : PySem.W.Frag} {mg : Str → Option Value} {h : Heap} {st : Stmt} {fa : Addr} {x : Str} {k : Nat} {m : List D → Res RV} {cs : List (Addr × Addr)} {cdv : Value} (X : K.In h) (G : h.Ns mainGlobals mg) (hfa : mg "law" = some (.ref fa)) (d : DefInC K "law" st cdv) (b : BindOk "law" st [x])
    (hT : ∀ p ∈ cs, PySem.W.CodeHd h p.1 p.2 ∧ h.get? p.2 = some (PySem.W.tabObj #[])) (nT : ∀ p ∈ cs, K.lookup p.2 = none)
    (F : ∀ (base : Heap), (∀ p ∈ cs, GxR.TabB base mg p.1 p.2) → ∀ (f : Addr) (fd : FuncData), FunC K "law" st f fd cdv → FnOk P w K mg base (L2.CX P w) k f fd [x] (spD ⟨cs.map (·.2), P, w⟩ K mg m)) (hm : ∀ ns : List Int, ns.length ≤ 63 → m [scriptD ns] = .ok (.val (.bool true))) :
    ∃ (fd : FuncData) (cs : List (Addr × Addr)), (∀ p ∈ cs, PySem.W.CodeHd h p.1 p.2 ∧ h.get? p.2 = some (PySem.W.tabObj #[])) ∧ (∀ p ∈ cs, K.lookup p.2 = none) ∧ (∀ (s : Shared) (u : Value), BindsTo s fd ⟨[u], []⟩ [(x, u)]) ∧
        ∀ base : Heap, K.In base → base.Ns mainGlobals mg → (∀ p ∈ cs, GxR.TabB base mg p.1 p.2) → FnOk P w K mg base (L2.CX P w) k fa fd [x] (spLawT K (cs.map (·.2))) := by
  obtain ⟨f, oc, od, an, sl, kV, doc, pm, ct, h1, h2, h3, h4⟩ := d
  have e := hfa.symm.trans (PySem.W.mg_of X G h1)
  cases e
  exact ⟨_, cs, hT, nT, fun s u => .of_eq (b kV doc pm an cdv ct [u] rfl), fun base _ _ ht => law_impT (F base ht fa _ ⟨⟨oc, od, kV, doc, pm, an, ct, sl, rfl, h2, h3⟩, h4⟩) hm⟩

theorem tabIn_of {K : PySem.W.Frag} {x : Str} {f c P : Addr} {oc oc2 : Value} {od od2 : Option Addr} {sl sl2 : Array (Option Value)} {fd : FuncData} {vs : Array Value} (h1 : PySem.W.nsIn K mainGlobals x = some (some (.ref f))) (h2 : K.lookup f = some ⟨oc, od, .func fd, sl⟩) (h3 : fd.code = .ref c)
    (h4 : K.lookup c = some ⟨oc2, od2, .fields vs, sl2⟩) (h5 : vs[11]? = some (.ref P)) : PySem.W.tabIn K x = some (c, P) := by
  simp only [PySem.W.tabIn, h1, h2, h3, h4, h5]
/-! ### module constants, more built-ins -/
section
variable {TS : TabList} {X : Cx} {a b c : Expr} {fa fb fc : En → Res D} {pos : Pos}
theorem de_gstr {x c : Str} (h : ∃ t, X.mg x = some (.str c t)) (hg : Gl X x) (hd : (x == ("__debug__" : Str)) = false := by decide) : DE TS X (.Name x pos) (eC (.str c)) := by
  obtain ⟨t, h⟩ := h
  exact de_glob (v := .str c) hg h ⟨t, rfl⟩ (fun _ => .str c) hd
theorem de_gint {x : Str} {i : Int} (h : ∃ t, X.mg x = some (.int i t)) (hg : Gl X x) (hd : (x == ("__debug__" : Str)) = false := by decide) : DE TS X (.Name x pos) (eC (.int i)) := by
  obtain ⟨t, h⟩ := h
  exact de_glob (v := .int i) hg h ⟨t, rfl⟩ (fun _ => .int i) hd
theorem gstr_of {K : PySem.W.Frag} {mg : Str → Option Value} {h : Heap} {x c : Str} (X : K.In h) (G : h.Ns mainGlobals mg) (y : ∃ t, PySem.W.nsIn K mainGlobals x = some (some (.str c t))) : ∃ t, mg x = some (.str c t) := by
  obtain ⟨t, y⟩ := y
  exact ⟨t, PySem.W.mg_of X G y⟩
theorem gint_of {K : PySem.W.Frag} {mg : Str → Option Value} {h : Heap} {x : Str} {i : Int} (X : K.In h) (G : h.Ns mainGlobals mg) (y : ∃ t, PySem.W.nsIn K mainGlobals x = some (some (.int i t))) : ∃ t, mg x = some (.int i t) := by
  obtain ⟨t, y⟩ := y
  exact ⟨t, PySem.W.mg_of X G y⟩
def int2D : D → Res D
  | .int i => .ok (.int i)
  | .bool b => .ok (.int (if b then 1 else 0))
  | .str x => match PySem.intText? x with
    | some n => if x.length ≤ 640 then .ok (.int n) else .bad
    | none => .bad
  | _ => .bad
theorem cd_int2 : CallD TS X (.type "int") (oneD int2D) := by
  refine ⟨?_⟩
  intro W σ vs ds G H Q ok rs p
  unfold oneD at p
  split at p
  · obtain ⟨v, rfl, r⟩ := rs.one_inv
    rename_i d
    cases r with
    | int i => exact wpC_of call_int1 (.inl ⟨_, rfl, fin1 ok p (.int _)⟩)
    | bl b => exact wpC_of call_int1 (.inr ⟨_, rfl, fin1 ok p (.int _)⟩)
    | str x =>
      have p : PostG (RelE X.K) TS X W σ G H (match PySem.intText? x with
        | some n => if x.length ≤ 640 then .ok (.int n) else .bad
        | none => .bad) Q := p
      cases e : PySem.intText? x with
      | none =>
        rw [e] at p
        exact p.elim
      | some n =>
        rw [e] at p
        have p : PostG (RelE X.K) TS X W σ G H (if x.length ≤ 640 then .ok (.int n) else .bad) Q := p
        split at p
        · rename_i hl
          exact wpC_of call_int_str ⟨x, n, rfl, e, hl, fin1 ok p (.int _)⟩
        · exact p.elim
    | _ => exact p.elim
  · exact p.elim
def strD : D → Res D
  | .int i => if i.natAbs.log2 < 1920 then .ok (.str (Str.ofString (toString i))) else .bad
  | _ => .bad
theorem cd_str : CallD TS X (.type "str") (oneD strD) := by
  refine ⟨?_⟩
  intro W σ vs ds G H Q ok rs p
  unfold oneD at p
  split at p
  · obtain ⟨v, rfl, r⟩ := rs.one_inv
    cases r with
    | int i =>
      have p : PostG (RelE X.K) TS X W σ G H (if i.natAbs.log2 < 1920 then .ok (.str (Str.ofString (toString i))) else .bad) Q := p
      split at p
      · rename_i hl
        exact wpC_of call_str_int ⟨_, rfl, hl, fin1 ok p (.str _)⟩
      · exact p.elim
    | _ => exact p.elim
  · exact p.elim
end
end Pyr

set_option Elab.async false
set_option autoImplicit false
set_option linter.all false
set_option maxRecDepth 100000
set_option maxHeartbeats 2000000
namespace Pyr
open PySem PySem.Spec PyProof.Rows L2 Evl
theorem gxF_all {t : Tg} {tt : En → Res Bool} {fe : En → Res D} {ρ : En} {p : D → Bool} : ∀ ds : List D, (∀ d ∈ ds, ∃ ρ1, tgE t d ρ = .ok ρ1 ∧ tt ρ1 = .ok true ∧ fe ρ1 = .ok (.bool (p d))) → gxF true t tt fe ρ ds = .ok (.bool (ds.all p))
  | [], _ => rfl
  | d :: ds, h => by
    obtain ⟨ρ1, h1, h2, h3⟩ := h d List.mem_cons_self
    show (tgE t d ρ).bind _ = _
    rw [h1]
    show (noX (tt ρ1)).bind _ = _
    rw [h2]
    show (noX (fe ρ1)).bind _ = _
    rw [h3]
    show (if p d = true then gxF true t tt fe ρ ds else .ok (.bool (p d))) = _
    rw [List.all_cons]
    cases hp : p d with
    | true =>
      rw [if_pos rfl, gxF_all ds fun d hd => h d (List.mem_cons_of_mem _ hd), Bool.true_and]
    | false => rw [if_neg (by decide), Bool.false_and]
theorem gxF_any {t : Tg} {tt : En → Res Bool} {fe : En → Res D} {ρ : En} {p : D → Bool} : ∀ ds : List D, (∀ d ∈ ds, ∃ ρ1, tgE t d ρ = .ok ρ1 ∧ tt ρ1 = .ok true ∧ fe ρ1 = .ok (.bool (p d))) → gxF false t tt fe ρ ds = .ok (.bool (ds.any p))
  | [], _ => rfl
  | d :: ds, h => by
    obtain ⟨ρ1, h1, h2, h3⟩ := h d List.mem_cons_self
    show (tgE t d ρ).bind _ = _
    rw [h1]
    show (noX (tt ρ1)).bind _ = _
    rw [h2]
    show (noX (fe ρ1)).bind _ = _
    rw [h3]
    show (if p d = false then gxF false t tt fe ρ ds else .ok (.bool (p d))) = _
    rw [List.any_cons]
    cases hp : p d with
    | false => rw [if_pos rfl, gxF_any ds fun d hd => h d (List.mem_cons_of_mem _ hd), Bool.false_or]
    | true => rw [if_neg (by decide), Bool.true_or]
theorem in_sign (c : Nat) (y : Str) : inD (.str ⟨#[c]⟩) (.str y) = .ok (.bool (decide (c ∈ y.cps.toList))) := by
  show (if (⟨#[c]⟩ : Str).length = 1 then Res.ok (PyData.bool (decide ((⟨#[c]⟩ : Str).cps.getD 0 0 ∈ y.cps.toList))) else .bad) = _
  rw [if_pos (show (⟨#[c]⟩ : Str).length = 1 from rfl)]
  rfl
/-- all signs of a text among those of another -/
theorem gx_signs {i : Nat} {ρ : En} {y : Str} {tt : En → Res Bool} (x : Str) (fe : En → Res D) (ht : ∀ ρ1, tt ρ1 = .ok true) (hf : ∀ c : Nat, fe (ρ.set i (some (.str ⟨#[c]⟩))) = inD (.str ⟨#[c]⟩) (.str y)) : gxF true (.nm i) tt fe ρ (signsD x) = .ok (.bool (x.cps.toList.all fun c => decide (c ∈ y.cps.toList))) := by
  rw [gxF_all (p := fun d => match d with | .str z => decide (z.cps.getD 0 0 ∈ y.cps.toList) | _ => false)]
  · unfold signsD
    rw [List.all_map]
    rfl
  · intro d hd
    unfold signsD at hd
    obtain ⟨c, _, rfl⟩ := List.mem_map.mp hd
    refine ⟨_, rfl, ht _, ?_⟩
    rw [hf, in_sign]
    rfl
theorem tl_len (x : Str) : x.length = x.cps.toList.length := by show x.cps.size = _; simp
theorem len_str {x : Str} (h : x.length ≤ LIM) : lenD (.str x) = .ok (.int x.length) := okL_ok h
theorem modD_int {i j : Int} (h : j ≠ 0) : modD (.int i) (.int j) = .ok (.int (i.fmod j)) := if_pos h
theorem fmod_nat (n : Int) {m : Nat} (hm : 0 < m) : ∃ j : Nat, n.fmod m = j ∧ j < m := ⟨(n.fmod m).toNat, by rw [Int.toNat_of_nonneg (Int.fmod_nonneg_of_pos _ (by omega))], by have := Int.fmod_lt_of_pos n (b := m) (by omega); have := Int.fmod_nonneg_of_pos n (b := m) (by omega); omega⟩
theorem addD_str {x y : Str} (h : x.length + y.length ≤ LIM) : addD (.str x) (.str y) = .ok (.str (x ++ y)) := okL_ok h
end Pyr

set_option Elab.async false
set_option autoImplicit false
set_option linter.all false
set_option maxRecDepth 100000
set_option maxHeartbeats 2000000
namespace Pyr
open PySem PySem.Spec PyProof.Rows L2 Evl
theorem set_any {i : Nat} {fe : En → Res D} {ρ : Frm} {d : D} (h : evP fe ρ = .ok d) : sSet i fe ρ = .ok (.next (ρ.set i (.val d))) := by unfold sSet; rw [h]; rfl
theorem app_any {i : Nat} {fe : En → Res D} {ρ : Frm} {ds : List D} {d : D} (h : ρ[i]? = some (Sl.own (.lst ds))) (he : evP fe ρ = .ok d) (hl : ds.length + 1 ≤ LIM) : sApp i fe ρ = .ok (.next (ρ.set i (.own (.lst (ds ++ [d]))))) := by unfold sApp; rw [h]; show (evP fe ρ).bind _ = _; rw [he]; exact okL_ok hl
theorem put_any {i : Nat} {fj fe : En → Res D} {ρ : Frm} {ds : List D} {d : D} {j : Nat} (h : ρ[i]? = some (Sl.own (.lst ds))) (he : evP fe ρ = .ok d) (hj : evP fj ρ = .ok (.int (j : Int))) (hl : j < ds.length) : sPut i fj fe ρ = .ok (.next (ρ.set i (.own (.lst (ds.set j d))))) := by
  unfold sPut
  rw [h]
  show (evP fe ρ).bind _ = _
  rw [he]
  show (evP fj ρ).bind _ = _
  rw [hj]
  show (match ixN ds.length (j : Int) with
      | some n => Res.ok (Fl.next (ρ.set i (.own (.lst (ds.set n d)))))
      | none => .bad) = _
  have e : ixN ds.length (j : Int) = some j := by
    unfold ixN
    rw [if_pos (by omega), if_pos (by omega)]
    simp
  rw [e]
theorem mulD_r {i j : Int} (h : -(2 ^ 64) < j ∧ j < 2 ^ 64) : mulD (.int i) (.int j) = .ok (.int (i * j)) := if_pos (.inr h)
theorem fdivD_r {i j : Int} (h : j ≠ 0 ∧ j.natAbs < 1073741824) : fdivD (.int i) (.int j) = .ok (.int (i.fdiv j)) := if_pos h
theorem fmod_in (n : Int) {m : Int} (hm : 0 < m) : 0 ≤ n.fmod m ∧ n.fmod m < m := ⟨Int.fmod_nonneg_of_pos _ hm, Int.fmod_lt_of_pos _ hm⟩
theorem e2_ok {g : D → D → Res D} {fa fb : En → Res D} {ρ : En} {x y : D} (ha : fa ρ = .ok x) (hb : fb ρ = .ok y) : e2 g fa fb ρ = g x y := by unfold e2; rw [ha, bind_ok, hb, bind_ok]
theorem e1_ok {g : D → Res D} {fa : En → Res D} {ρ : En} {x : D} (ha : fa ρ = .ok x) : e1 g fa ρ = g x := by unfold e1; rw [ha, bind_ok]
theorem one_ok {g : D → Res D} {fa : En → Res D} {ρ : En} {x : D} (ha : fa ρ = .ok x) : eN (oneD g) (aC fa a0) ρ = g x := by unfold eN aC a0; rw [ha]; rfl
theorem iF_ok {g : D → Res (List D)} {fa : En → Res D} {ρ : En} {x : D} (ha : fa ρ = .ok x) : iF g fa ρ = g x := by unfold iF; rw [ha, bind_ok]
theorem tE_ok {g : D → Res Bool} {fa : En → Res D} {ρ : En} {x : D} (ha : fa ρ = .ok x) : tE g fa ρ = g x := by unfold tE; rw [ha, bind_ok]
theorem aC_ok {fa : En → Res D} {fr : En → Res (List D)} {ρ : En} {x : D} {xs : List D} (ha : fa ρ = .ok x) (hr : fr ρ = .ok xs) : aC fa fr ρ = .ok (x :: xs) := by unfold aC; rw [ha, bind_ok, hr]; rfl
theorem eN_ok {g : List D → Res D} {fr : En → Res (List D)} {ρ : En} {xs : List D} (hr : fr ρ = .ok xs) : eN g fr ρ = g xs := by unfold eN; rw [hr, bind_ok]
theorem call_ok {m : List D → Res RV} {fr : En → Res (List D)} {ρ : En} {xs : List D} {r : RV} (hr : fr ρ = .ok xs) (hm : m xs = .ok r) : eCall m fr ρ = .ok r.d := by unfold eCall; rw [hr, bind_ok, hm]; rfl
theorem not_ok {t : En → Res Bool} {ρ : En} {b : Bool} (h : t ρ = .ok b) : tNotR t ρ = .ok (!b) := by unfold tNotR; rw [h, bind_ok]
theorem and_ok {t u : En → Res Bool} {ρ : En} {a b : Bool} (h : t ρ = .ok a) (h2 : a = true → u ρ = .ok b) : tAndR t u ρ = .ok (a && b) := by
  unfold tAndR
  rw [h, bind_ok]
  cases a with
  | true => rw [if_pos rfl, h2 rfl]; rfl
  | false => rfl
theorem or_ok {t u : En → Res Bool} {ρ : En} {a b : Bool} (h : t ρ = .ok a) (h2 : a = false → u ρ = .ok b) : tOrR t u ρ = .ok (a || b) := by
  unfold tOrR
  rw [h, bind_ok]
  cases a with
  | false => rw [if_neg (by decide), h2 rfl]; rfl
  | true => rfl
end Pyr

set_option Elab.async false
set_option autoImplicit false
set_option linter.all false
set_option maxRecDepth 100000
set_option maxHeartbeats 2000000
namespace Com
open PySem PySem.Spec PyProof.Rows L2 Evl Pyr
abbrev eL (f : En → Res (List Pyr.D)) : En → Res Pyr.D := fun ρ => (f ρ).map .list
def B__law_draws_0 : Frm → Res Fl := (sSeq (sSet 5 (eC (.int 0)))
  (sSeq (sIf (tE boolD (e2 gtD (eN (oneD lenD) (aC (eVar 2) a0)) (eC (.int 0)))) (sSeq (sSet 7 (e2 modD (eN (oneD int2D) (aC (eVar 4) a0)) (eN (oneD lenD) (aC (eVar 2) a0))))
  (sIf (tE boolD (e2 geD (e2 atD (eVar 2) (eVar 7)) (e2 powD (eC (.int 10)) (eC (.int 18))))) (sSeq (sSet 5 (e2 modD (eN (oneD int2D) (aC (e2 atD (eVar 2) (eVar 7)) a0)) (eC (.int 1000))))
  (sPut 2 (eVar 7) (e2 fdivD (e2 atD (eVar 2) (eVar 7)) (eC (.int 1000))))) (sSeq (sSet 8 (e2 modD (eN (oneD int2D) (aC (e2 addD (e2 addD (e2 mulD (e2 atD (eVar 2) (eVar 7)) (eC (.int 48271))) (e2 mulD (eVar 4) (eC (.int 69621)))) (eC (.int 11))) a0)) (eC (.int 2147483647))))
  (sSeq (sSet 8 (e2 modD (eN (oneD int2D) (aC (e2 addD (e2 mulD (eVar 8) (eC (.int 16807))) (eVar 7)) a0)) (eC (.int 2147483629))))
  (sSet 5 (e2 modD (eN (oneD int2D) (aC (e2 fdivD (eVar 8) (eC (.int 7))) a0)) (eC (.int 1000)))))))) sNext)
  (sApp 3 (eVar 5))))
def F__law_draws : Frm → Res Fl := (sSeq (sSetL 2 (lComp [6] (Tg.nm 6) (iF walkD (eVar 0)) tYesR (eVar 6)))
  (sSeq (sSetL 3 (lN a0))
  (sSeq (sForR (Tg.nm 4) (iF r1D (eVar 1)) B__law_draws_0)
  (sRetO 3))))
def m__law_draws : List D → Res RV := defM 2 9 F__law_draws
theorem pow18 : powD (.int 10) (.int 18) = .ok (.int 1000000000000000000) := by
  unfold powD
  simp only [show (0 : Int) ≤ 18 ∧ (18 : Int) ≤ 1000000 ∧ (10 : Int).natAbs < 2 ^ 64 by decide, if_true, and_self]
  rfl
abbrev drF (a b : Sl) (R : List Int) (Ds : List Pyr.D) (k : Int) (s5 s7 s8 : Sl) : Frm := [a, b, .own (.lst (R.map .int)), .own (.lst Ds), .val (.int k), s5, .emp, s7, s8]
theorem draw_one (a b : Sl) (R : List Int) (Ds : List Pyr.D) (k : Nat) (s5 s7 s8 : Sl) (hD : Ds.length + 1 ≤ LIM) (hR : R.length ≤ LIM) :
    ∃ R' v s7' s8', B__law_draws_0 (drF a b R Ds k s5 s7 s8) = .ok (.next (drF a b R' (Ds ++ [.int v]) k (.val (.int v)) s7' s8')) ∧ R'.length = R.length ∧ 0 ≤ v ∧ v < 1000 := by
  unfold B__law_draws_0
  rw [seq_ok (set_ok (d := .int 0) rfl)]
  rw [show (drF a b R Ds k s5 s7 s8).set 5 (.val (.int 0)) = drF a b R Ds k (.val (.int 0)) s7 s8 from rfl]
  have t1 : ∀ s5 s7 s8, (tE boolD (e2 gtD (eN (oneD lenD) (aC (eVar 2) a0)) (eC (.int 0)))) (frzE (drF a b R Ds k s5 s7 s8)) = .ok (decide (0 < R.length)) := fun s5 s7 s8 => by
    show Res.ok (decide ((0 : Int) < ((R.map PyData.int).length : Int))) = _
    rw [List.length_map]
    congr 1
    rw [decide_eq_decide]
    omega
  by_cases h0 : 0 < R.length
  · -- the place
    have hk := fmod_nat (k : Int) h0
    obtain ⟨j, ej, hj⟩ := hk
    have hget : (R.map PyData.int)[j]? = some (.int R[j]) := by
      rw [List.getElem?_map, List.getElem?_eq_getElem hj]
      rfl
    have eat : ∀ s5 s8, evP (e2 modD (eN (oneD int2D) (aC (eVar 4) a0)) (eN (oneD lenD) (aC (eVar 2) a0))) (drF a b R Ds k s5 s7 s8) = .ok (.int (j : Int)) := fun s5 s8 => by
      refine evP_frz rfl ?_ rfl
      show modD (.int k) (.int ((R.map PyData.int).length : Int)) = _
      rw [List.length_map, modD_int (by omega), ej]
    have r0 : ∀ s5 s8, (e2 atD (eVar 2) (eVar 7)) (frzE (drF a b R Ds k s5 (.val (.int j)) s8)) = .ok (.int R[j]) := fun s5 s8 => by
      show atD (.list (R.map .int)) (.int (j : Int)) = _
      exact at_list hget
    have t2 : (tE boolD (e2 geD (e2 atD (eVar 2) (eVar 7)) (e2 powD (eC (.int 10)) (eC (.int 18))))) (frzE (drF a b R Ds k (.val (.int 0)) (.val (.int j)) s8)) = .ok (decide (1000000000000000000 ≤ R[j])) := by
      show (((e2 atD (eVar 2) (eVar 7)) (frzE (drF a b R Ds k (.val (.int 0)) (.val (.int j)) s8))).bind fun x => (powD (.int 10) (.int 18)).bind fun y => geD x y).bind boolD = _
      rw [r0, pow18]
      rfl
    by_cases h1 : 1000000000000000000 ≤ R[j]
    · refine ⟨R.set j (R[j].fdiv 1000), R[j].fmod 1000, .val (.int j), s8, ?_, by rw [List.length_set], (fmod_in _ (by decide)).1, (fmod_in _ (by decide)).2⟩
      rw [seq_ok (ρ' := drF a b (R.set j (R[j].fdiv 1000)) Ds k (.val (.int (R[j].fmod 1000))) (.val (.int j)) s8)]
      · rw [app_any (ds := Ds) (d := .int (R[j].fmod 1000)) rfl (evP_ok rfl) hD]
        rfl
      · rw [if_ok (t1 _ _ _), decide_eq_true h0, if_pos rfl, seq_ok (set_any (eat _ _))]
        show sIf _ _ _ (drF a b R Ds k (.val (.int 0)) (.val (.int j)) s8) = _
        rw [if_ok t2, decide_eq_true h1, if_pos rfl]
        rw [seq_ok (set_any (d := .int (R[j].fmod 1000)) ?_)]
        · show sPut _ _ _ (drF a b R Ds k (.val (.int (R[j].fmod 1000))) (.val (.int j)) s8) = _
          rw [put_any (ds := R.map .int) (d := .int (R[j].fdiv 1000)) (j := j) rfl ?_ (evP_ok rfl) (by rw [List.length_map]; exact hj)]
          · rw [show (R.map PyData.int).set j (.int (R[j].fdiv 1000)) = (R.set j (R[j].fdiv 1000)).map PyData.int by rw [List.map_set]]
            rfl
          · refine evP_frz rfl ?_ rfl
            show (((e2 atD (eVar 2) (eVar 7)) (frzE (drF a b R Ds k (.val (.int (R[j].fmod 1000))) (.val (.int j)) s8))).bind fun x => fdivD x (.int 1000)) = _
            rw [r0, bind_ok, fdivD_r (by decide)]
        · refine evP_frz rfl ?_ rfl
          show ((((e2 atD (eVar 2) (eVar 7)) (frzE (drF a b R Ds k (.val (.int 0)) (.val (.int j)) s8))).bind fun x => Res.ok [x]).bind (oneD int2D)).bind (fun x => modD x (.int 1000)) = _
          rw [r0]
          show modD (.int R[j]) (.int 1000) = _
          rw [modD_int (by decide)]
    · refine ⟨R, ((((((R[j] * 48271 + k * 69621 + 11).fmod 2147483647) * 16807 + j).fmod 2147483629).fdiv 7).fmod 1000), .val (.int j), .val (.int ((((R[j] * 48271 + k * 69621 + 11).fmod 2147483647) * 16807 + j).fmod 2147483629)), ?_, rfl, (fmod_in _ (by decide)).1, (fmod_in _ (by decide)).2⟩
      generalize hm1 : (R[j] * 48271 + (k : Int) * 69621 + 11).fmod 2147483647 = m1
      generalize hm2 : (m1 * 16807 + (j : Int)).fmod 2147483629 = m2
      generalize hv : (m2.fdiv 7).fmod 1000 = v
      rw [seq_ok (ρ' := drF a b R Ds k (.val (.int v)) (.val (.int j)) (.val (.int m2)))]
      · rw [app_any (ds := Ds) (d := .int v) rfl (evP_ok rfl) hD]
        rfl
      · rw [if_ok (t1 _ _ _), decide_eq_true h0, if_pos rfl, seq_ok (set_any (eat _ _))]
        show sIf _ _ _ (drF a b R Ds k (.val (.int 0)) (.val (.int j)) s8) = _
        rw [if_ok t2, decide_eq_false h1, if_neg (by decide)]
        rw [seq_ok (set_any (d := .int m1) ?_)]
        · show sSeq _ _ (drF a b R Ds k (.val (.int 0)) (.val (.int j)) (.val (.int m1))) = _
          rw [seq_ok (set_any (d := .int m2) ?_)]
          · show sSet _ _ (drF a b R Ds k (.val (.int 0)) (.val (.int j)) (.val (.int m2))) = _
            rw [set_any (d := .int v) ?_]
            · rfl
            · refine evP_ok ?_
              show ((((fdivD (.int m2) (.int 7)).bind fun x => Res.ok [x]).bind (oneD int2D)).bind fun x => modD x (.int 1000)) = _
              rw [fdivD_r (by decide)]
              show modD (.int (m2.fdiv 7)) (.int 1000) = _
              rw [modD_int (by decide), hv]
          · refine evP_ok ?_
            show (((((mulD (.int m1) (.int 16807)).bind fun x => addD x (.int j)).bind fun x => Res.ok [x]).bind (oneD int2D)).bind fun x => modD x (.int 2147483629)) = _
            rw [mulD_r (by decide)]
            show modD (.int (m1 * 16807 + j)) (.int 2147483629) = _
            rw [modD_int (by decide), hm2]
        · refine evP_frz rfl ?_ rfl
          refine (e2_ok (x := .int (R[j] * 48271 + (k : Int) * 69621 + 11)) (y := .int 2147483647) ?_ rfl).trans ?_
          · refine (one_ok (x := .int (R[j] * 48271 + (k : Int) * 69621 + 11)) ?_).trans rfl
            refine (e2_ok (x := .int (R[j] * 48271 + (k : Int) * 69621)) (y := .int 11) ?_ rfl).trans rfl
            exact (e2_ok ((e2_ok (r0 _ _) rfl).trans (mulD_r (i := R[j]) (j := 48271) (by decide))) ((e2_ok (x := .int k) (y := .int 69621) rfl rfl).trans (mulD_r (by decide)))).trans rfl
          rw [modD_int (by decide), hm1]
  · refine ⟨R, 0, s7, s8, ?_, rfl, by decide, by decide⟩
    rw [seq_ok (ρ' := drF a b R Ds k (.val (.int 0)) s7 s8)]
    · rw [app_any (ds := Ds) (d := .int 0) rfl (evP_ok rfl) hD]
      rfl
    · rw [if_ok (t1 _ _ _), decide_eq_false h0]
      rfl
theorem draw_loop (a b : Sl) : ∀ (n k : Nat) (R : List Int) (Ds : List Pyr.D) (s4 s5 s7 s8 : Sl), Ds.length + n ≤ LIM → R.length ≤ LIM →
    ∃ (R' : List Pyr.D) (vs : List Int) (s4' s5' s7' s8' : Sl), forF (Tg.nm 4) B__law_draws_0 (upto (k : Int) n) [a, b, .own (.lst (R.map .int)), .own (.lst Ds), s4, s5, .emp, s7, s8] = .ok (.next [a, b, .own (.lst R'), .own (.lst (Ds ++ vs.map .int)), s4', s5', .emp, s7', s8']) ∧ vs.length = n ∧ ∀ v ∈ vs, (0 : Int) ≤ v ∧ v < 1000
  | 0, k, R, Ds, s4, s5, s7, s8, _, _ => ⟨_, [], s4, s5, s7, s8, by rw [List.map_nil, List.append_nil]; rfl, rfl, fun _ h => by cases h⟩
  | n + 1, k, R, Ds, s4, s5, s7, s8, hD, hR => by
    obtain ⟨R1, v, s7', s8', e, hl, h1, h2⟩ := draw_one a b R Ds k s5 s7 s8 (by omega) hR
    obtain ⟨R', vs, t4, t5, t7, t8, e2, hn, hv⟩ := draw_loop a b n (k + 1) R1 (Ds ++ [.int v]) (.val (.int k)) (.val (.int v)) s7' s8' (by rw [List.length_append]; simp only [List.length_cons, List.length_nil]; omega) (by omega)
    refine ⟨R', v :: vs, t4, t5, t7, t8, ?_, by rw [List.length_cons, hn], fun z hz => ?_⟩
    · refine (forF_next (ρ1 := drF a b R Ds k s5 s7 s8) rfl e).trans ?_
      rw [List.append_assoc] at e2
      exact e2
    · rcases List.mem_cons.mp hz with rfl | hz
      · exact ⟨h1, h2⟩
      · exact hv z hz
theorem draws_run (xs : List Int) (n : Nat) (hx : xs.length ≤ LIM) (hn : n ≤ LIM) : ∃ vs : List Int, m__law_draws [.list (xs.map .int), .int n] = .ok (.own (vs.map .int)) ∧ vs.length = n ∧ ∀ v ∈ vs, (0 : Int) ≤ v ∧ v < 1000 := by
  unfold m__law_draws
  rw [defM_eq (np := 2) rfl, show frm0 9 [.list (xs.map .int), .int n] = [.val (.list (xs.map .int)), .val (.int n), .emp, .emp, .emp, .emp, .emp, .emp, .emp] from rfl]
  unfold F__law_draws
  rw [seq_ok (setL_ok (d := xs.map .int) ?_), seq_ok (setL_ok (d := []) rfl)]
  · show ∃ vs : List Int, outR (sSeq _ _ [.val (.list (xs.map .int)), .val (.int n), .own (.lst (xs.map .int)), .own (.lst []), .emp, .emp, .emp, .emp, .emp]) = _ ∧ _
    obtain ⟨R', vs, t4, t5, t7, t8, e, h1, h2⟩ := draw_loop (.val (.list (xs.map .int))) (.val (.int n)) n 0 xs [] .emp .emp .emp .emp (by rw [List.length_nil]; omega) hx
    refine ⟨vs, ?_, h1, h2⟩
    rw [seq_ok ((forR_ok (ds := upto 0 n) ((iF_ok (x := .int (n : Int)) rfl).trans (r1D_nat hn)) (upto_flat _ _)).trans e)]
    rfl
  · show okL (xs.map PyData.int).length (compF (Tg.nm 6) tYesR (eVar 6) _ (xs.map PyData.int)) = _
    rw [okL_ok (by rw [List.length_map]; exact hx), compF_map (g := fun d => d)]
    · rw [List.map_id']
    · intro d hd
      obtain ⟨z, _, rfl⟩ := List.mem_map.mp hd
      exact ⟨_, rfl, rfl, rfl⟩
end Com

set_option Elab.async false
set_option autoImplicit false
set_option linter.all false
set_option maxRecDepth 100000
set_option maxHeartbeats 2000000
namespace Pyr
open PySem PySem.Spec PyProof.Rows L2 Evl

/-! ### a, b = e -/
def sSetT (t : Tg) (fe : En → Res D) : Frm → Res Fl := fun ρ => (evP fe ρ).bind fun d => (tgF t d ρ).bind fun ρ' => .ok (.next ρ')
theorem ds_setT {TS : TabList} {X : Cx} {e tg : Expr} {fe : En → Res D} {pos : Pos} {t : Tg} (he : DE TS X e fe) (hg : PG X tg (gTg X.K t)) (hs : swapsWithSole [tg] e pos.line X.env = pure false := by rfl) (hw : swappedStores [tg] e X.env = pure none := by rfl)
    (h1 : (assignEach [tg] X.env).map (·.2) = [assign tg X.env] := by rfl) : DSt TS X (.Assign [tg] e pos) (sSetT t fe) := by
  refine ⟨?_⟩
  intro W ρ σ G_0 H_0 G H fp D tk s p
  refine wpSt_of (ps_asg (pe_wp X e) hg hs hw h1) ?_
  refine evP_run he tk s p fun v d G1 H1 g r p => ?_
  cases e1 : tgF t d ρ with
  | exc c fs => exact (tgF_exc e1).elim
  | bad =>
    rw [e1] at p
    exact p.elim
  | ok ρ' =>
    rw [e1] at p
    exact gTgF_ok r (s.grow g) e1 fun σ' s' => p σ' G1 H1 fp g.g s'

/-! ### is True -/
section
variable {TS : TabList} {X : Cx}
def isBD : D → D → Res D
  | .bool a, .bool b => .ok (.bool (decide (a = b)))
  | x, .none => isND x .none
  | _, _ => .bad

def notBD (x y : D) : Res D := (isBD x y).bind fun b => match b with
  | .bool b => .ok (.bool (!b))
  | _ => .bad
theorem od_isB : OpD TS X (compareOp .Is) isBD := by
  refine ⟨?_⟩
  intro W σ v u x y G H Q ok rx ry p
  cases ry with
  | non => cases rx <;> exact wpO_of op_isN ⟨rfl, fin1 ok p (.bl _)⟩
  | bl b =>
    cases rx with
    | bl a => exact wpO_of op_is_bl ⟨_, _, rfl, rfl, fin1 ok p (.bl _)⟩
    | _ => exact p.elim
  | _ => cases rx <;> exact p.elim
theorem od_notB : OpD TS X (compareOp .IsNot) notBD := by
  refine ⟨?_⟩
  intro W σ v u x y G H Q ok rx ry p
  cases ry with
  | non => cases rx <;> exact wpO_of op_notN ⟨rfl, fin1 ok p (.bl _)⟩
  | bl b =>
    cases rx with
    | bl a => exact wpO_of op_isnot_bl ⟨_, _, rfl, rfl, fin1 ok p (.bl _)⟩
    | _ => exact p.elim
  | _ => cases rx <;> exact p.elim

/-! ### sorted -/
def alikeB (ds : List D) : Bool := ds.all fun d => ds.all fun d' => PySem.W.alike d d'
def tupB : D → Bool
  | .tuple (_ :: _) => true
  | _ => false
def notTupB : D → Bool
  | .tuple _ => false
  | .none => false
  | _ => true
def sortableB (ds : List D) : Bool := ds.all tupB || ds.all notTupB
def sortC (ds : List D) : Bool := alikeB ds && sortableB ds && ds.all (fun d => flatD d && decide (d.depth ≤ 12)) && decide (ds.length ≤ LIM)
def sortL : D → Res (List D)
  | .list ds => if sortC ds then .ok (ds.mergeSort (PySem.W.dataLe false id)) else .bad
  | _ => .bad
theorem alike_of {ds : List D} (h : alikeB ds = true) : PySem.W.AllAlike ds := fun d hd d' hd' => List.all_eq_true.mp (List.all_eq_true.mp h d hd) d' hd'
theorem sortable_of {ds : List D} (h : sortableB ds = true) : PySem.W.Sortable ds := by
  unfold sortableB at h
  rw [Bool.or_eq_true] at h
  rcases h with h | h
  · refine .inl fun d hd => ?_
    have := List.all_eq_true.mp h d hd
    unfold tupB at this
    split at this
    · exact ⟨_, _, rfl⟩
    · cases this
  · refine .inr fun d hd => ?_
    have := List.all_eq_true.mp h d hd
    refine ⟨fun e => ?_, fun xs e => ?_⟩ <;> subst e <;> cases this
def RVD (K : PySem.W.Frag) (G : Hp) (u : Value) (d : D) : Prop := ∃ v : V, RelV v u ∧ Rp K G v d
theorem each_rvd {K : PySem.W.Frag} {G : Hp} : ∀ {vs : List V} {us : List Value} {ds : List D}, Vals vs us → Rps K G vs ds → PySem.W.EachIs (RVD K G) us ds
  | _, _, _, .nil, .nil => .nil
  | _, _, _, .cons r rs, .cons h hs => .cons ⟨_, r, h⟩ (each_rvd rs hs)
theorem rvd_each {K : PySem.W.Frag} {G : Hp} : ∀ {us : List Value} {ds : List D}, PySem.W.EachIs (RVD K G) us ds → ∃ vs : List V, Vals vs us ∧ Rps K G vs ds
  | _, _, .nil => ⟨[], .nil, .nil⟩
  | _, _, .cons ⟨v, r, h⟩ hs => by
    obtain ⟨vs, a, b⟩ := rvd_each hs
    exact ⟨v :: vs, .cons r a, .cons h b⟩
theorem cl_sorted (C : CtE X) : CallL TS X (.builtin "sorted") (oneL sortL) := by
  refine ⟨?_⟩
  intro W σ vs ds G H Q ok rs p
  unfold oneL at p
  split at p
  · obtain ⟨v, rfl, r⟩ := rs.one_inv
    rename_i d
    cases d with
    | list ds =>
      have p : PostG (RelL X.K) TS X W σ G H (if sortC ds then .ok (ds.mergeSort (PySem.W.dataLe false id)) else .bad) Q := p
      split at p
      · rename_i hc
        unfold sortC at hc
        simp only [Bool.and_eq_true, decide_eq_true_eq] at hc
        obtain ⟨⟨⟨h1, h2⟩, h3⟩, h4⟩ := hc
        obtain ⟨q, xs, rfl, hq, r⟩ := r.list_inv
        have hq' := ex_l ok.le hq
        intro pins s σ us I rv
        obtain ⟨its, rI, hl, _⟩ := I.list hq'
        rw [Vals.ref1 rv]
        have e1 := each_rvd rI r
        have er : PySem.W.EachIs (fun u d => ∃ as, Reads s.heap u (id d) as) its ds := (PySem.W.each_mem e1).mono fun u d ⟨⟨v, r1, r2⟩, hb⟩ => by
          have := List.all_eq_true.mp h3 d hb
          rw [Bool.and_eq_true] at this
          exact Dp.reads I d v u ((r2.mono ok.le).dp this.1) r1
        refine PySem.W.sorted_data (enc := id) (R := RVD X.K G) hl.isList e1 er (by rw [List.map_id]; exact alike_of h1) (by rw [List.map_id]; exact sortable_of h2) (lim_line h4) (fun d hd => ?_) fun out ho hO => ?_
        · have := List.all_eq_true.mp h3 d hd
          rw [Bool.and_eq_true] at this
          have h5 := of_decide_eq_true this.2
          have h6 := C.un
          show _ + 2 + d.depth < _
          omega
        · obtain ⟨ws, rw', rp⟩ := rvd_each hO
          obtain ⟨ep, he'⟩ := PyProof.Rows.sortedAll_at s.heap its (List.toArray out)
          have hlen : ws.length ≤ sizeLine := by
            rw [rw'.length, ho]
            exact lim_line h4
          have hf := I.hok.fresh (Nat.le_succ s.heap.objs.size)
          have g := Gr.own (o := .lst ws) ok hf
          exact ⟨.ref _, upd H (s.heap.objs.size + 1) (.lst ws), I.laid (t' := s.toks) (fun _ _ => PyProof.Rows.sortedAll_old) (Nat.le_succ _) ⟨hlen, out, ep, rw', he'⟩, rfl, p _ G _ g ⟨_, ws, rfl, hf, fresh_back ok.le hf, upd_same, rp⟩⟩
      · exact p.elim
    | _ => exact p.elim
  · exact p.elim
end
end Pyr

set_option Elab.async false
set_option autoImplicit false
set_option linter.all false
set_option maxRecDepth 100000
set_option maxHeartbeats 2000000
namespace Pyr
open PySem PySem.Spec PyProof.Rows L2 Evl

/-! ### raise X(), an own class without own __init__ -/
abbrev veM : List Value := [.type "ValueError", .type "Exception", .type "BaseException", .type "object"]
/-- an own exception class without own __init__, known by its name -/
structure ExcC (K : PySem.W.Frag) (mg : Str → Option Value) (x : Str) (C : Addr) : Prop where
  is : PySem.W.excIn K C veM "ValueError.__new__" = true
  at_ : mg x = some (.ref C)
  kp : PySem.W.keepIn K (.ref C) = true
  sub : PySem.W.subIn K (.ref C) (.type "BaseException") = some true
  ty : PySem.W.typeIn K (.ref C) = some (.type "type")
section
variable {TS : TabList} {X : Cx} {C : Addr} {x : Str}
theorem pmk_own0 {p pos : Pos} (e : ExcC X.K X.mg x C) (hg : Gl X x) (hdb : (x == ("__debug__" : Str)) = false := by decide) : PMk X (.Call (.Name x p) [] [] pos) (fun _ H Q => Q (.ref C) none H) := by
  intro pins s σ H Q I h
  refine wpAny_Call_Name_kw (ld_glob I hg e.at_ ?_ hdb)
  refine PySem.W.callWith_K0 I.kIn e.kp ?_
  show wpAny _ _ (call (.ref C) []) _ _ _
  obtain ⟨bm, N, nm, qn, bs, hdct, sn, sub, ab, col, dd, k0, k1, k2, k3, k5, mN, hC, hN, hni, T⟩ := exc_obj I.kIn e.is
  refine wpAny_call_exc_subT _root_.PySem.F.excBase_ValueError T hC hN hni (fun h' a hm => ?_) (by show 0 ≤ sizeLine; rw [sizeLine_eq]; omega)
  exact mk_of I hm (raises_own e.sub e.ty) h (I.hok.gone hm.new)
def sRaise (c : Str) : Frm → Res Fl := fun _ => .exc c []
theorem ds_raise0 {p pos pos2 : Pos} (Ct : CtE X) (e : ∃ C, ExcC X.K X.mg x C) (hg : Gl X x) (hdb : (x == ("__debug__" : Str)) = false := by decide) : DSt TS X (.Raise (some (.Call (.Name x p) [] [] pos)) none pos2) (sRaise x) := by
  obtain ⟨C, e⟩ := e
  refine ⟨?_⟩
  intro W ρ σ G_0 H_0 G H fp D tk s p
  exact wpSt_of (ps_raise Ct.calm tk (pmk_own0 e hg hdb)) (p C none σ G H e.at_ s.gr rfl)
end
end Pyr

set_option Elab.async false
set_option autoImplicit false
set_option linter.all false
set_option maxRecDepth 100000
set_option maxHeartbeats 2000000
/-! texts: x * n, f-strings; while -/
namespace Pyr
open PySem PySem.Spec PyProof.Rows L2 Evl

/-! ### x * n -/
def repS (x : Str) (n : Nat) : Str := ⟨(List.replicate n x.cps.toList).flatten.toArray⟩
theorem fold_arr (a : Array Nat) : ∀ (n : Nat) (b : Array Nat), ((List.replicate n a).foldl (· ++ ·) b).toList = b.toList ++ (List.replicate n a.toList).flatten
  | 0, b => by simp
  | n + 1, b => by
    rw [List.replicate_succ, List.foldl_cons, fold_arr a n, List.replicate_succ, List.flatten_cons, Array.toList_append, List.append_assoc]
theorem txt_mul (x : Str) (n : Int) : Txt.mul x n = repS x n.toNat := by
  unfold Txt.mul
  by_cases h : n < 1
  · rw [if_pos h]
    have : n.toNat = 0 := by omega
    rw [this]
    rfl
  · rw [if_neg h]
    by_cases h2 : (n == 1 || x.length == 0) = true
    · rw [if_pos h2]
      apply TL.ext_tl
      show x.cps.toList = (List.replicate n.toNat x.cps.toList).flatten
      rw [Bool.or_eq_true] at h2
      rcases h2 with h2 | h2
      · have : n.toNat = 1 := by
          have := eq_of_beq h2
          omega
        rw [this]
        simp
      · have h3 : x.cps.size = 0 := eq_of_beq h2
        have h4 : x.cps.toList = [] := by
          have : x.cps.toList.length = 0 := by simpa using h3
          exact List.eq_nil_of_length_eq_zero this
        rw [h4]
        simp
    · rw [if_neg h2]
      apply TL.ext_tl
      show ((List.replicate n.toNat x.cps).foldl (· ++ ·) #[]).toList = _
      rw [fold_arr]
      rfl
section
variable {TS : TabList} {X : Cx}
theorem op_mul_str : OpR X (binaryOp .Mult) (fun x y H Q => ∃ i n, x = .str i ∧ y = .int n ∧ n.natAbs ≤ LIM ∧ i.length * n.toNat ≤ LIM ∧ Q (.str (repS i n.toNat)) H) := by
  intro pins s σ H x y v u Q I rx ry h
  obtain ⟨i, n, rfl, rfl, h1, h2, q⟩ := h
  obtain ⟨t, rfl⟩ := rx
  obtain ⟨t', rfl⟩ := ry
  have h1 : n.natAbs ≤ 100000 := h1
  have h2 : i.length * n.toNat ≤ 100000 := h2
  refine PySem.SB.mul ⟨?_, ?_, ?_⟩ fun t' k => ?_
  · rw [decide_eq_false (by omega), decide_eq_false (by omega)]
    rfl
  · intro a b hh
    have hn : 0 < n := by omega
    have := (Int.ediv_lt_iff_lt_mul hn).mp hh
    have e : ((i.length * n.toNat : Nat) : Int) = (i.length : Int) * n := by
      rw [Int.natCast_mul, Int.toNat_of_nonneg (by omega)]
    omega
  · intro _ _
    have : i.length * n.toNat ≤ sizeLine := Nat.le_trans h2 (by decide)
    exact decide_eq_false (by
      have e : sizeLine ≤ 2 ^ 63 - 1 - 64 := by decide
      omega)
  · rw [txt_mul]
    exact ⟨.str (repS i n.toNat), H, I.tok _, ⟨_, rfl⟩, q⟩
def mul2D : D → D → Res D
  | .str x, .int n => if n.natAbs ≤ LIM ∧ x.length * n.toNat ≤ LIM then .ok (.str (repS x n.toNat)) else .bad
  | .int i, .int j => mulD (.int i) (.int j)
  | _, _ => .bad
theorem od_mul2 : OpD TS X (binaryOp .Mult) mul2D := by
  refine ⟨?_⟩
  intro W σ v u x y G H Q ok rx ry p
  unfold mul2D at p
  split at p
  · cases rx
    cases ry
    split at p
    · rename_i h
      exact wpO_of op_mul_str ⟨_, _, rfl, rfl, h.1, h.2, fin1 ok p (.str _)⟩
    · exact p.elim
  · exact od_mul W σ v u _ _ G H Q ok rx ry p
  · exact p.elim

/-! ### f-strings -/
def fmtD : D → Res D
  | .str x => okL x.length (.ok (.str x))
  | .int i => if i.natAbs.log2 < 1920 then .ok (.str (Str.ofString (toString i))) else .bad
  | _ => .bad
variable {a : Expr} {fa : En → Res D} {es rest : List Expr} {fr : En → Res Str} {pos : Pos}
theorem de_fmt (ha : DE TS X a fa) : DE TS X (.FormattedValue a (-1) none pos) (e1 fmtD fa) := by
  refine ⟨?_⟩
  intro W ρ σ G H Q tk re ok post
  refine wpE_of (pe_fmt (pe_wp X a)) ?_
  unfold tFmt
  refine bindP back_E (fun Q' h => ha W ρ σ G H Q' tk re ok h) post fun v x G1 H1 _ g1 r post1 => ?_
  cases r with
  | str y =>
    obtain ⟨h, p⟩ := okL_post post1
    exact Or.inl ⟨y, rfl, lim_line h, p _ G1 H1 (Gr.refl g1.ok) (.str _)⟩
  | int i =>
    have post1 : PostG (RelE X.K) TS X W σ G1 H1 (if i.natAbs.log2 < 1920 then .ok (.str (Str.ofString (toString i))) else .bad) Q := post1
    split at post1
    · rename_i h
      exact Or.inr ⟨i, rfl, h, post1 _ G1 H1 (Gr.refl g1.ok) (.str _)⟩
    · exact post1.elim
  | _ => exact post1.elim
abbrev RelS : Hp → Hp → Hp → Str → Str → Prop := fun _ _ _ v b => v = b
theorem back_S : Back RelS := fun _ _ _ _ _ _ _ h => h
/-- the texts one behind the other, behind acc -/
structure DJ (TS : TabList) (X : Cx) (es : List Expr) (f : En → Res Str) : Prop where
  run : ∀ (W : WX) (ρ : En) (σ : L2.St) (acc : Str) (G H : Hp) (Q : Str → Hp → Prop), Takes X W → RpE TS X.K G H ρ σ → Ok0 TS G H → PostG RelS TS X W σ G H ((f ρ).bind fun y => okL (acc ++ y).length (.ok (acc ++ y))) Q → tJs (es.map (wpE X)) acc σ H Q
def jC (fa : En → Res D) (fr : En → Res Str) : En → Res Str := fun ρ => (fa ρ).bind fun x => match x, fr ρ with
  | .str y, .ok r => .ok (y ++ r)
  | _, _ => .bad
def j0 : En → Res Str := fun _ => .ok Str.empty
theorem tl_app (x y : Str) : (x ++ y).cps.toList = x.cps.toList ++ y.cps.toList := by rw [Str.cps_append, Array.toList_append]
theorem app_empty (x : Str) : x ++ Str.empty = x := TL.ext_tl (by show (x ++ Str.empty).cps.toList = x.cps.toList; rw [tl_app]; simp [Str.empty])
theorem app_assoc (x y z : Str) : x ++ y ++ z = x ++ (y ++ z) := TL.ext_tl (by show (x ++ y ++ z).cps.toList = (x ++ (y ++ z)).cps.toList; simp only [tl_app, List.append_assoc])
theorem app_len (x y : Str) : (x ++ y).length = x.length + y.length := by simp only [tl_len, tl_app, List.length_append]
theorem dj_nil : DJ TS X [] j0 := .mk fun W ρ σ acc G H Q tk re ok post => by
  have post : PostG RelS TS X W σ G H (okL (acc ++ Str.empty).length (.ok (acc ++ Str.empty))) Q := post
  obtain ⟨_, p⟩ := okL_post post
  rw [app_empty] at p
  exact p acc G H (Gr.refl ok) rfl
theorem dj_cons (ha : DE TS X a fa) (hr : DJ TS X es fr) : DJ TS X (a :: es) (jC fa fr) := .mk fun W ρ σ acc G H Q tk re ok post => by
  have e : ((jC fa fr ρ).bind fun y => okL (acc ++ y).length (Res.ok (acc ++ y))) = (fa ρ).bind fun x => (match x, fr ρ with
    | .str y, .ok r => .ok (y ++ r)
    | _, _ => .bad : Res Str).bind fun y => okL (acc ++ y).length (Res.ok (acc ++ y)) := by
    unfold jC
    cases fa ρ <;> rfl
  rw [e] at post
  show wpE X a σ H fun x H1 => ∃ y : Str, x = .str y ∧ (acc ++ y).length ≤ sizeLine ∧ tJs (es.map (wpE X)) (acc ++ y) σ H1 Q
  refine bindP back_S (fun Q' h => ha W ρ σ G H Q' tk re ok h) post fun v x G1 H1 _ g1 r post1 => ?_
  cases r with
  | str y =>
    cases hf : fr ρ with
    | ok r =>
      rw [hf] at post1
      have post1 : PostG RelS TS X W σ G1 H1 (okL (acc ++ (y ++ r)).length (.ok (acc ++ (y ++ r)))) Q := post1
      have hl := (okL_post post1).1
      rw [← app_assoc] at post1
      refine ⟨y, rfl, ?_, hr.run W ρ σ (acc ++ y) G1 H1 Q tk (re.mono g1) g1.ok (by rw [hf]; exact post1)⟩
      rw [← app_assoc, app_len] at hl
      exact lim_line (by omega)
    | exc c fs =>
      rw [hf] at post1
      exact post1.elim
    | bad =>
      rw [hf] at post1
      exact post1.elim
  | _ => exact post1.elim
def eFs (fr : En → Res Str) : En → Res D := fun ρ => (fr ρ).bind fun y => okL y.length (.ok (.str y))
theorem pj_wp : ∀ es : List Expr, PJ X es (es.map (wpE X))
  | [] => .nil
  | e :: es => .cons (pe_wp X e) (pj_wp es)
theorem de_fstr {v1 v2 : Expr} (h : DJ TS X (v1 :: v2 :: rest) fr) : DE TS X (.JoinedStr (v1 :: v2 :: rest) pos) (eFs fr) := by
  refine ⟨?_⟩
  intro W ρ σ G H Q tk re ok post
  refine wpE_of (pe_joined (pj_wp _)) ?_
  refine h.run W ρ σ Str.empty G H _ tk re ok ?_
  have post : PostG (RelE X.K) TS X W σ G H ((fr ρ).bind fun y => okL y.length (.ok (.str y))) Q := post
  have ee : ∀ y : Str, Str.empty ++ y = y := fun y => TL.ext_tl (by show (Str.empty ++ y).cps.toList = y.cps.toList; rw [tl_app]; simp [Str.empty])
  cases hf : fr ρ with
  | ok y =>
    rw [hf] at post
    obtain ⟨hl, p⟩ := okL_post post
    show PostG RelS TS X W σ G H (okL (Str.empty ++ y).length (.ok (Str.empty ++ y))) _
    rw [ee, okL_ok hl]
    intro v G' H' g e
    cases e
    exact p _ G' H' g (.str y)
  | exc c fs =>
    rw [hf] at post
    exact post
  | bad =>
    rw [hf] at post
    exact post.elim
theorem de_fstr1 (ha : DE TS X a fa) : DE TS X (.JoinedStr [a] pos) fa := .mk fun W ρ σ G H Q tk re ok post => wpE_of (pe_joined1 (pe_wp X a)) (ha W ρ σ G H Q tk re ok post)
end
end Pyr

set_option Elab.async false
set_option autoImplicit false
set_option linter.all false
set_option maxRecDepth 100000
set_option maxHeartbeats 2000000
/-! running by rewriting -/
namespace Pyr
open PySem PySem.Spec PyProof.Rows L2 Evl
theorem run_mul {i j : Int} (h : -1099511627776 < j ∧ j < 1099511627776) : mul2D (.int i) (.int j) = .ok (.int (i * j)) := if_pos (.inr ⟨by omega, by omega⟩)
theorem run_mulS {x : Str} {n : Int} (h : n.natAbs ≤ 100000 ∧ x.length * n.toNat ≤ 100000) : mul2D (.str x) (.int n) = .ok (.str (repS x n.toNat)) := if_pos h
theorem run_add {i j : Int} : addD (.int i) (.int j) = .ok (.int (i + j)) := rfl
theorem run_sub {i j : Int} : subD (.int i) (.int j) = .ok (.int (i - j)) := rfl
theorem run_addS {x y : Str} (h : x.length + y.length ≤ 100000) : addD (.str x) (.str y) = .ok (.str (x ++ y)) := okL_ok h
theorem run_mod {i j : Int} (h : j ≠ 0) : modD (.int i) (.int j) = .ok (.int (i.fmod j)) := if_pos h
theorem run_fdiv {i j : Int} (h : j ≠ 0 ∧ j.natAbs < 1073741824) : fdivD (.int i) (.int j) = .ok (.int (i.fdiv j)) := if_pos h
theorem run_lt {i j : Int} : ltD (.int i) (.int j) = .ok (.bool (decide (i < j))) := rfl
theorem run_le {i j : Int} : leD (.int i) (.int j) = .ok (.bool (decide (i ≤ j))) := rfl
theorem run_gt {i j : Int} : gtD (.int i) (.int j) = .ok (.bool (decide (j < i))) := rfl
theorem run_ge {i j : Int} : geD (.int i) (.int j) = .ok (.bool (decide (j ≤ i))) := rfl
theorem run_lenL {ds : List D} : lenD (.list ds) = .ok (.int ds.length) := rfl
theorem run_lenT {ds : List D} : lenD (.tuple ds) = .ok (.int ds.length) := rfl
theorem run_okL {α : Type} {n : Nat} {r : Res α} (h : n ≤ 100000) : okL n r = r := okL_ok h
theorem run_lenS {x : Str} (h : x.length ≤ 100000) : lenD (.str x) = .ok (.int x.length) := okL_ok h
theorem run_int {i : Int} : int2D (.int i) = .ok (.int i) := rfl
theorem run_bool {b : Bool} : boolD (.bool b) = .ok b := rfl
theorem run_truB {b : Bool} : truD (.bool b) = .ok b := rfl
theorem run_truL {ds : List D} : truD (.list ds) = .ok (!ds.isEmpty) := rfl
theorem run_purV {d : D} {ρ : Frm} : purE (Sl.val d :: ρ) = some d :: purE ρ := rfl
theorem run_purE {ρ : Frm} : purE (Sl.emp :: ρ) = none :: purE ρ := rfl
theorem run_purO {ds : List D} {ρ : Frm} : purE (Sl.own (.lst ds) :: ρ) = some (loD ds) :: purE ρ := rfl
theorem run_frzV {d : D} {ρ : Frm} : frzE (Sl.val d :: ρ) = some d :: frzE ρ := rfl
theorem run_frzE {ρ : Frm} : frzE (Sl.emp :: ρ) = none :: frzE ρ := rfl
theorem run_frzL {ds : List D} {ρ : Frm} : frzE (Sl.own (.lst ds) :: ρ) = some (.list ds) :: frzE ρ := rfl
def purS : Sl → Option D
  | .val d => some d
  | .own (.lst ds) => some (loD ds)
  | .own (.set ds) => some (stD ds)
  | .own (.tup _) => none
  | .emp => none
def frzS : Sl → Option D
  | .val d => some d
  | .own o => o.d
  | .emp => none
theorem run_pur1 {x : Sl} {ρ : Frm} : purE (x :: ρ) = purS x :: purE ρ := by
  cases x with
  | own o => cases o <;> rfl
  | _ => rfl
theorem run_frz1 {x : Sl} {ρ : Frm} : frzE (x :: ρ) = frzS x :: frzE ρ := rfl
theorem run_pSv {d : D} : purS (.val d) = some d := rfl
theorem run_pSo {ds : List D} : purS (.own (.lst ds)) = some (loD ds) := rfl
theorem run_pSe : purS .emp = none := rfl
theorem run_fSv {d : D} : frzS (.val d) = some d := rfl
theorem run_fSo {ds : List D} : frzS (.own (.lst ds)) = some (.list ds) := rfl
theorem run_fSe : frzS .emp = none := rfl
theorem run_pur0 : purE [] = [] := rfl
theorem run_frz0 : frzE [] = [] := rfl
theorem run_v0 {d : D} {ρ : En} (h : isLo d = false) : eVar 0 (some d :: ρ) = .ok d := by
  show (if isLo d = true then Res.bad else .ok d) = _
  rw [h]
  rfl
theorem run_v0n {ρ : En} : eVar 0 (some PyData.none :: ρ) = .ok .none := rfl
theorem run_v0b {b : Bool} {ρ : En} : eVar 0 (some (.bool b) :: ρ) = .ok (.bool b) := rfl
theorem run_v0i {i : Int} {ρ : En} : eVar 0 (some (.int i) :: ρ) = .ok (.int i) := rfl
theorem run_v0s {x : Str} {ρ : En} : eVar 0 (some (.str x) :: ρ) = .ok (.str x) := rfl
theorem run_v0l {ds : List D} {ρ : En} : eVar 0 (some (.list ds) :: ρ) = .ok (.list ds) := rfl
theorem run_v0t {ds : List D} {ρ : En} : eVar 0 (some (.tuple ds) :: ρ) = .ok (.tuple ds) := rfl
theorem run_v0o {ds : List D} {ρ : En} : eVar 0 (some (loD ds) :: ρ) = .bad := rfl
theorem run_vN {ρ : En} : eVar 0 (none :: ρ) = .bad := rfl
theorem run_vS {i : Nat} {x : Option D} {ρ : En} : eVar (i + 1) (x :: ρ) = eVar i ρ := rfl
theorem run_bad {α β : Type} {k : α → Res β} : (Res.bad : Res α).bind k = .bad := rfl
theorem run_exc {α β : Type} {c : Str} {fs : List (Str × D)} {k : α → Res β} : (Res.exc c fs : Res α).bind k = .exc c fs := rfl
theorem run_map {α β : Type} {f : α → β} {a : α} : (Res.ok a).map f = .ok (f a) := rfl
theorem isi_str_n : isiD "str" (PyData.none) = .ok (.bool false) := rfl
theorem isi_str_b {b : Bool} : isiD "str" (.bool b) = .ok (.bool false) := rfl
theorem isi_str_i {i : Int} : isiD "str" (.int i) = .ok (.bool false) := rfl
theorem isi_str_s {s : Str} : isiD "str" (.str s) = .ok (.bool true) := rfl
theorem isi_str_l {l : List D} : isiD "str" (.list l) = .ok (.bool false) := rfl
theorem isi_str_t {t : List D} : isiD "str" (.tuple t) = .ok (.bool false) := rfl
theorem isi_str_d {d : List (D × D)} : isiD "str" (.dict d) = .ok (.bool false) := rfl
theorem isi_int_n : isiD "int" (PyData.none) = .ok (.bool false) := rfl
theorem isi_int_b {b : Bool} : isiD "int" (.bool b) = .ok (.bool true) := rfl
theorem isi_int_i {i : Int} : isiD "int" (.int i) = .ok (.bool true) := rfl
theorem isi_int_s {s : Str} : isiD "int" (.str s) = .ok (.bool false) := rfl
theorem isi_int_l {l : List D} : isiD "int" (.list l) = .ok (.bool false) := rfl
theorem isi_int_t {t : List D} : isiD "int" (.tuple t) = .ok (.bool false) := rfl
theorem isi_int_d {d : List (D × D)} : isiD "int" (.dict d) = .ok (.bool false) := rfl
theorem isi_bool_n : isiD "bool" (PyData.none) = .ok (.bool false) := rfl
theorem isi_bool_b {b : Bool} : isiD "bool" (.bool b) = .ok (.bool true) := rfl
theorem isi_bool_i {i : Int} : isiD "bool" (.int i) = .ok (.bool false) := rfl
theorem isi_bool_s {s : Str} : isiD "bool" (.str s) = .ok (.bool false) := rfl
theorem isi_bool_l {l : List D} : isiD "bool" (.list l) = .ok (.bool false) := rfl
theorem isi_bool_t {t : List D} : isiD "bool" (.tuple t) = .ok (.bool false) := rfl
theorem isi_bool_d {d : List (D × D)} : isiD "bool" (.dict d) = .ok (.bool false) := rfl
theorem isi_list_n : isiD "list" (PyData.none) = .ok (.bool false) := rfl
theorem isi_list_b {b : Bool} : isiD "list" (.bool b) = .ok (.bool false) := rfl
theorem isi_list_i {i : Int} : isiD "list" (.int i) = .ok (.bool false) := rfl
theorem isi_list_s {s : Str} : isiD "list" (.str s) = .ok (.bool false) := rfl
theorem isi_list_l {l : List D} : isiD "list" (.list l) = .ok (.bool true) := rfl
theorem isi_list_t {t : List D} : isiD "list" (.tuple t) = .ok (.bool false) := rfl
theorem isi_list_d {d : List (D × D)} : isiD "list" (.dict d) = .ok (.bool false) := rfl
theorem isi_tuple_n : isiD "tuple" (PyData.none) = .ok (.bool false) := rfl
theorem isi_tuple_b {b : Bool} : isiD "tuple" (.bool b) = .ok (.bool false) := rfl
theorem isi_tuple_i {i : Int} : isiD "tuple" (.int i) = .ok (.bool false) := rfl
theorem isi_tuple_s {s : Str} : isiD "tuple" (.str s) = .ok (.bool false) := rfl
theorem isi_tuple_l {l : List D} : isiD "tuple" (.list l) = .ok (.bool false) := rfl
theorem isi_tuple_t {t : List D} : isiD "tuple" (.tuple t) = .ok (.bool true) := rfl
theorem isi_tuple_d {d : List (D × D)} : isiD "tuple" (.dict d) = .ok (.bool false) := rfl
theorem isi_dict_n : isiD "dict" (PyData.none) = .ok (.bool false) := rfl
theorem isi_dict_b {b : Bool} : isiD "dict" (.bool b) = .ok (.bool false) := rfl
theorem isi_dict_i {i : Int} : isiD "dict" (.int i) = .ok (.bool false) := rfl
theorem isi_dict_s {s : Str} : isiD "dict" (.str s) = .ok (.bool false) := rfl
theorem isi_dict_l {l : List D} : isiD "dict" (.list l) = .ok (.bool false) := rfl
theorem isi_dict_t {t : List D} : isiD "dict" (.tuple t) = .ok (.bool false) := rfl
theorem isi_dict_d {d : List (D × D)} : isiD "dict" (.dict d) = .ok (.bool true) := rfl
theorem run_atT0 {a : D} {l : List D} : atD (.tuple (a :: l)) (.int 0) = .ok a := at_tup (k := 0) rfl
theorem run_atT1 {a b : D} {l : List D} : atD (.tuple (a :: b :: l)) (.int 1) = .ok b := at_tup (k := 1) rfl
theorem run_atT2 {a b c : D} {l : List D} : atD (.tuple (a :: b :: c :: l)) (.int 2) = .ok c := at_tup (k := 2) rfl
theorem run_atT3 {a b c d : D} {l : List D} : atD (.tuple (a :: b :: c :: d :: l)) (.int 3) = .ok d := at_tup (k := 3) rfl
theorem run_atT4 {a b c d e : D} {l : List D} : atD (.tuple (a :: b :: c :: d :: e :: l)) (.int 4) = .ok e := at_tup (k := 4) rfl
theorem run_atL0 {a : D} {l : List D} : atD (.list (a :: l)) (.int 0) = .ok a := at_list (k := 0) rfl
theorem run_atL1 {a b : D} {l : List D} : atD (.list (a :: b :: l)) (.int 1) = .ok b := at_list (k := 1) rfl
theorem run_atL2 {a b c : D} {l : List D} : atD (.list (a :: b :: c :: l)) (.int 2) = .ok c := at_list (k := 2) rfl
theorem run_atL3 {a b c d : D} {l : List D} : atD (.list (a :: b :: c :: d :: l)) (.int 3) = .ok d := at_list (k := 3) rfl
theorem run_atL4 {a b c d e : D} {l : List D} : atD (.list (a :: b :: c :: d :: e :: l)) (.int 4) = .ok e := at_list (k := 4) rfl
end Pyr

set_option Elab.async false
set_option autoImplicit false
set_option linter.all false
set_option maxRecDepth 100000
set_option maxHeartbeats 2000000
/-! while; list.pop, list.extend; nested targets; min, max -/
namespace Pyr
open PySem PySem.Spec PyProof.Rows L2 Evl

/-! ### while -/
def whileF (ft : En → Res Bool) (F : Frm → Res Fl) : Nat → Frm → Res Fl
  | 0, _ => .bad
  | n + 1, ρ => (evT ft ρ).bind fun b => if b then (F ρ).bind fun fl => match fl with
      | .next ρ2 => whileF ft F n ρ2
      | .cont ρ2 => whileF ft F n ρ2
      | .brk ρ2 => .ok (.next ρ2)
      | .ret r => .ok (.ret r)
    else .ok (.next ρ)
section
variable {TS : TabList} {X : Cx} {W : WX} {c : Expr} {ft : En → Res Bool} {F : Frm → Res Fl} {body : List Stmt} {pos : Pos}
theorem ds_while (n : Nat) (hp : PassesOwn (model X.prog X.w) X.A X.env X.xe) (hc : DT TS X c ft) (hb : DSs TS X body F) : DSt TS X (.While c body [] pos) (whileF ft F n) := by
  refine ⟨?_⟩
  intro W ρ σ G_0 H_0 G H fp D tk s p
  refine wpSt_of (ps_while hp (pt_wp X c) (pss_wp X body)) ?_
  refine ⟨fun m σ H => ∃ ρ G' fp', SI TS X.K G_0 H_0 ρ σ G' H fp' ∧ PostS TS X W G_0 H_0 G' D (whileF ft F m ρ), ⟨n, ρ, G, fp, s, p⟩, ?_⟩
  rintro m σ H ⟨ρ, G', fp', s, p⟩
  cases m with
  | zero => exact p.elim
  | succ m =>
    refine evT_run hc tk s p fun b H1 g p => ?_
    cases b with
    | false =>
      rw [if_neg Bool.false_ne_true]
      exact p σ G' H1 fp' (Ex.refl G') (s.grow g)
    | true =>
      rw [if_pos rfl]
      refine ⟨fun σ' H' => ∃ ρ' G2 fp2, SI TS X.K G_0 H_0 ρ' σ' G2 H' fp2 ∧ PostS TS X W G_0 H_0 G2 D (whileF ft F m ρ'), fun σ' H' h => ⟨m, Nat.lt_succ_self m, h⟩, ?_⟩
      refine hb W ρ σ G_0 H_0 G' H1 fp' _ tk (s.grow g) ?_
      have p : PostS TS X W G_0 H_0 G' D ((F ρ).bind fun fl => match fl with
        | .next ρ2 => whileF ft F m ρ2
        | .cont ρ2 => whileF ft F m ρ2
        | .brk ρ2 => .ok (.next ρ2)
        | .ret r => .ok (.ret r)) := p
      cases hf : F ρ with
      | ok fl =>
        rw [hf] at p
        cases fl with
        | next ρ2 => exact fun σ3 G3 H3 fp3 e3 s3 => ⟨ρ2, G3, fp3, s3, p.shift e3⟩
        | cont ρ2 => exact fun σ3 G3 H3 fp3 e3 s3 => ⟨ρ2, G3, fp3, s3, p.shift e3⟩
        | brk ρ2 => exact fun σ3 G3 H3 fp3 e3 s3 => p σ3 G3 H3 fp3 e3 s3
        | ret r =>
          cases r with
          | val d => exact p
          | own ds => exact p
          | ownU dss => exact p
      | exc c fs =>
        rw [hf] at p
        exact p
      | bad =>
        rw [hf] at p
        exact p.elim
theorem while_end {n : Nat} {ρ : Frm} (h : evT ft ρ = .ok false) : whileF ft F (n + 1) ρ = .ok (.next ρ) := by
  show (evT ft ρ).bind _ = _
  rw [h]
  rfl
theorem while_next {n : Nat} {ρ ρ' : Frm} (h : evT ft ρ = .ok true) (hb : F ρ = .ok (.next ρ')) : whileF ft F (n + 1) ρ = whileF ft F n ρ' := by
  show (evT ft ρ).bind _ = _
  rw [h]
  show (F ρ).bind _ = _
  rw [hb]
  rfl
end

/-! ### targets within targets -/
mutual
inductive Tr where
  | nm (i : Nat)
  | tp (ts : Trs)
inductive Trs where
  | nil
  | cons (t : Tr) (ts : Trs)
end
def Trs.len : Trs → Nat
  | .nil => 0
  | .cons _ ts => ts.len + 1
mutual
def gTr (K : PySem.W.Frag) : Tr → TG
  | .nm i => gName i
  | .tp ts => gTup K ts.len (gTrs K ts)
def gTrs (K : PySem.W.Frag) : Trs → TGs
  | .nil => gNil
  | .cons t ts => gCons (gTr K t) (gTrs K ts)
end
mutual
def trF : Tr → D → Frm → Res Frm
  | .nm i, d, ρ => .ok (ρ.set i (.val d))
  | .tp ts, d, ρ => match d with
    | .tuple ds => if ds.length = ts.len then trsF ts ds ρ else .bad
    | _ => .bad
def trsF : Trs → List D → Frm → Res Frm
  | .nil, _, ρ => .ok ρ
  | .cons t ts, ds, ρ => match ds with
    | d :: ds => (trF t d ρ).bind fun ρ1 => trsF ts ds ρ1
    | [] => .bad
end
section
variable {TS : TabList} {K : PySem.W.Frag} {G_0 H_0 G H : Hp} {fp : Nat → List Addr}
mutual
theorem gTr_ok {Q : L2.St → Hp → Prop} : ∀ (t : Tr) {d : D} {v : V} {ρ ρ' : Frm} {σ : L2.St}, Rp K G v d → SI TS K G_0 H_0 ρ σ G H fp → trF t d ρ = .ok ρ' → (∀ σ', SI TS K G_0 H_0 ρ' σ' G H fp → Q σ' H) → gTr K t v σ H Q
  | .nm i, d, v, ρ, ρ', σ, r, s, e, k => by
    rw [trF] at e
    cases e
    rw [gTr]
    exact k _ (s.setVal r)
  | .tp ts, d, v, ρ, ρ', σ, r, s, e, k => by
    rw [gTr]
    cases r <;> simp only [trF] at e <;> try cases e
    rename_i a xs ds h rs
    split at e
    · rename_i hl
      exact ⟨a, xs, rfl, ex_t s.gr.ok.le h, by rw [rs.len, hl], gTrs_ok ts hl rs s e k⟩
    · cases e
theorem gTrs_ok {Q : L2.St → Hp → Prop} : ∀ (ts : Trs) {ds : List D} {vs : List V} {ρ ρ' : Frm} {σ : L2.St}, ds.length = ts.len → Rps K G vs ds → SI TS K G_0 H_0 ρ σ G H fp → trsF ts ds ρ = .ok ρ' → (∀ σ', SI TS K G_0 H_0 ρ' σ' G H fp → Q σ' H) → gTrs K ts vs σ H Q
  | .nil, ds, vs, ρ, ρ', σ, hl, rs, s, e, k => by
    rw [trsF] at e
    cases e
    cases rs with
    | nil =>
      rw [gTrs]
      exact ⟨rfl, k _ s⟩
    | cons _ _ => simp [Trs.len] at hl
  | .cons t ts, ds, vs, ρ, ρ', σ, hl, rs, s, e, k => by
    rw [gTrs]
    cases rs with
    | nil => simp [Trs.len] at hl
    | cons r rs =>
      rw [trsF] at e
      rename_i v vs d ds
      have e : (trF t d ρ).bind (fun ρ1 => trsF ts ds ρ1) = .ok ρ' := e
      cases e1 : trF t d ρ with
      | ok ρ1 =>
        rw [e1] at e
        refine ⟨v, vs, rfl, gTr_ok t r s e1 fun σ1 s1 => ?_⟩
        exact gTrs_ok ts (by simpa [Trs.len] using hl) rs s1 e k
      | exc c fs =>
        rw [e1] at e
        cases e
      | bad =>
        rw [e1] at e
        cases e
end
end

/-! ### x = xs.pop(), taken apart -/
def sPop (i : Nat) (t : Tr) : Frm → Res Fl := fun ρ => match ρ[i]? with
  | some (Sl.own (.lst ds)) => match ds.getLast? with
    | some d => match trF t d (ρ.set i (.own (.lst ds.dropLast))) with
      | .ok ρ' => .ok (.next ρ')
      | _ => .bad
    | none => .bad
  | _ => .bad
section
variable {TS : TabList} {X : Cx} {W : WX} {pos : Pos} {tg : Expr} {t : Tr}
theorem rps_last {K : PySem.W.Frag} {G : Hp} {vs : List V} {ds : List D} {d : D} (r : Rps K G vs ds) (h : ds.getLast? = some d) : ∃ v, vs[vs.length - 1]? = some v ∧ Rp K G v d := by
  rw [List.getLast?_eq_getElem?, ← r.len] at h
  exact r.at h
theorem rps_drop {K : PySem.W.Frag} {G : Hp} : ∀ {vs : List V} {ds : List D}, Rps K G vs ds → Rps K G vs.dropLast ds.dropLast
  | _, _, .nil => .nil
  | _, _, .cons r .nil => .nil
  | _, _, .cons r (.cons r2 rs) => .cons r (rps_drop (.cons r2 rs))
theorem ds_pop (i : Nat) {x : Str} {pos' apos cpos : Pos} (hg : PG X tg (gTr X.K t)) (hN : X.N[i]? = some x := by rfl) (hv : Vis X.env.scope x := by first | exact Or.inl rfl | exact Or.inr (Or.inl rfl) | exact Or.inr (Or.inr rfl)) (hd : (x == ("__debug__" : Str)) = false := by decide) (hcd : (x == ("__classdict__" : Str)) = false := by decide)
    (hbase : attributeBase (.Name x pos') "pop" X.env (eval (.Name x pos') X.env) = eval (.Name x pos') X.env := by rfl) (hline : (apos.endLine == cpos.line) = true := by rfl)
    (hs : swapsWithSole [tg] (.Call (.Attribute (.Name x pos') "pop" apos) [] [] cpos) pos.line X.env = pure false := by rfl) (hw : swappedStores [tg] (.Call (.Attribute (.Name x pos') "pop" apos) [] [] cpos) X.env = pure none := by rfl)
    (h1 : (assignEach [tg] X.env).map (·.2) = [assign tg X.env] := by rfl) :
    DSt TS X (.Assign [tg] (.Call (.Attribute (.Name x pos') "pop" apos) [] [] cpos) pos) (sPop i t) := by
  refine ⟨?_⟩
  intro W ρ σ G_0 H_0 G H fp D tk s p
  refine wpSt_of (ps_asg (pe_bm0 PySem.F.plainAttrs_list PySem.F.slot_list_pop PySem.F.type_list_pop mt_pop (pe_var hN hv hd hcd) hbase hline) hg hs hw h1) ?_
  unfold sPop at p
  split at p
  · rename_i ds hi
    obtain ⟨q, vs, h1, h2, r, z1, z2⟩ := own_at s hi
    split at p
    · rename_i d hl
      obtain ⟨y, hy, ry⟩ := rps_last r hl
      refine ⟨_, h1, Or.inl ⟨rfl, vs, SqL.of h2⟩, q, vs, y, rfl, rfl, h2, hy, ?_⟩
      have s1 := s.change hi h1 (rps_drop r)
      cases e1 : trF t d (ρ.set i (.own (.lst ds.dropLast))) with
      | ok ρ' =>
        rw [e1] at p
        exact gTr_ok t ry s1 e1 fun σ' s' => p σ' G _ fp (Ex.refl G) s'
      | exc c fs =>
        rw [e1] at p
        exact p.elim
      | bad =>
        rw [e1] at p
        exact p.elim
    · exact p.elim
  · exact p.elim
end
end Pyr

set_option Elab.async false
set_option autoImplicit false
set_option linter.all false
set_option maxRecDepth 100000
set_option maxHeartbeats 4000000
/-! t[::-1] of a tuple -/
namespace Pyr
open PySem PySem.Spec PyProof.Rows L2 Evl
section
variable {prog : Program} {w : World} {A : Around} {E : Value → Shared → Prop} {s : Shared}
theorem adj_back (n : Nat) : Builtin.Slice.sliceAdjust none none (-1) (n : Int) = ((n : Int) - 1, -1) := by
  unfold Builtin.Slice.sliceAdjust
  rfl
theorem plc_back (n : Nat) : Builtin.Slice.slicePlaces ((n : Int) - 1) (-1) (-1) = n := by
  unfold Builtin.Slice.slicePlaces
  rw [if_neg (by decide)]
  have e : -(-1 : Int) = 1 := by decide
  simp only [e, Int.ediv_one]
  split <;> omega
theorem app_back {b : Addr} {vl vu vs : Value} {n : Nat} {Q : Int × Int × Nat → Shared → Prop} (z : s.heap.IsSliceOf b vl vu vs) (pl : IsPart vl none) (pu : IsPart vu none) (ps : IsPart vs (some (-1)))
    (q : Q ((n : Int) - 1, -1, n) s) : wpAny (model prog w) A (Builtin.Slice.sliceApplied (.ref b) (pure (n : Int))) Q E s := by
  obtain ⟨ob, h1, h2, h3⟩ := id z
  unfold Builtin.Slice.sliceApplied Builtin.Slice.sliceFields
  refine wpAny_bind (wpAny_bind (wpAny_field h1 h3 (x := vl) rfl ?_))
  refine wpAny_bind (wpAny_field h1 h3 (x := vu) rfl ?_)
  refine wpAny_bind (wpAny_field h1 h3 (x := vs) rfl (wpAny_pure ?_))
  refine wpAny_bind (HT.slicePart_ ps ?_)
  show wpAny _ _ (if ((-1 : Int) == 0) = true then _ else _) _ _ s
  rw [if_neg (by decide)]
  refine wpAny_bind (HT.slicePart_ pl ?_)
  refine wpAny_bind (HT.slicePart_ pu ?_)
  refine wpAny_bind (wpAny_pure ?_)
  show wpAny _ _ (match Builtin.Slice.sliceAdjust none none (-1) (n : Int) with | (lo, hi) => pure (lo, (-1 : Int), Builtin.Slice.slicePlaces lo hi (-1))) _ _ s
  rw [adj_back]
  show wpAny _ _ (pure ((n : Int) - 1, (-1 : Int), Builtin.Slice.slicePlaces ((n : Int) - 1) (-1) (-1))) _ _ s
  rw [plc_back]
  exact wpAny_pure q
theorem fm_congr {α β : Type} {f g : α → Option β} : ∀ l : List α, (∀ x ∈ l, f x = g x) → l.filterMap f = l.filterMap g
  | [], _ => rfl
  | x :: l, h => by
    rw [List.filterMap_cons, List.filterMap_cons, h x List.mem_cons_self, fm_congr l fun y hy => h y (List.mem_cons_of_mem _ hy)]
theorem pick_back (xs : Array Value) : ((List.range xs.size).filterMap fun (k : Nat) => xs[((xs.size : Int) - 1 + (k : Int) * -1).toNat]?).toArray = xs.toList.reverse.toArray := by
  congr 1
  have e : ∀ k ∈ List.range xs.size, xs[((xs.size : Int) - 1 + (k : Int) * -1).toNat]? = xs[xs.size - 1 - k]? := fun k hk => by
    have := List.mem_range.mp hk
    have e2 : ((xs.size : Int) - 1 + (k : Int) * -1).toNat = xs.size - 1 - k := by omega
    rw [e2]
  have e3 : ((List.range xs.size).filterMap fun (k : Nat) => xs[((xs.size : Int) - 1 + (k : Int) * -1).toNat]?) = ((List.range xs.size).map fun k => xs.size - 1 - k).filterMap (xs[·]?) := by
    rw [List.filterMap_map]
    exact fm_congr _ e
  rw [e3, PySem.W.krv_range, List.filterMap_reverse, PySem.W.krv_all]
theorem get_back {t b : Addr} {its : Array Value} {vl vu vs : Value} {Q : Value → Shared → Prop} (ht : IsTup s.heap t its) (z : s.heap.IsSliceOf b vl vu vs) (pl : IsPart vl none) (pu : IsPart vu none) (ps : IsPart vs (some (-1)))
    (hz : its.size ≤ sizeLine) (q : Q (.ref s.heap.objs.size) { s with heap := s.heap.push { cls := .type "tuple", data := .seq its.toList.reverse.toArray } }) : wpAny (model prog w) A (getItem (.ref t) (.ref b)) Q E s := by
  have hk : sizeOk (.seq its.toList.reverse.toArray) := by
    show its.toList.reverse.toArray.size ≤ sizeLine
    simpa using hz
  obtain ⟨ob, h1, h2, h3⟩ := id z
  have tb : s.TypeIs (.ref b) "slice" := ⟨ob, h1, h2⟩
  unfold getItem
  try with_reducible refine wpAny_holding ?_
  first | refine wpAny_bind (wpAny_pure ?_) | skip
  refine wpAny_bind (wpAny_sequenceKey ht.typeIs (by decide) ?_)
  refine wpAny_bind (wpAny_callSpecial?_slot (name := Str.ofString "__getitem__") ht.typeIs PyProof.Rows.slot_tuple_getitem (wpAny_call_entry PyProof.Rows.slot_tuple_getitem ht.typeIs PyProof.Rows.entry_tuple_getitem ?_ (PyProof.Rows.args_tuple_getitem _ _)))
  show wpAny _ _ (Builtin.Tuple.tupleItemsOf (.ref t) >>= _) _ _ s
  refine wpAny_bind (PyProof.Rows.tupleItemsOf_ ht (wpAny_bind (wpAny_typeOf tb ?_)))
  rw [if_pos (by decide)]
  refine wpAny_bind (app_back z pl pu ps ?_)
  have no : ¬ ((((its.size : Int) - 1) == 0 && (-1 : Int) == 1 && its.size == its.size) = true) := by simp
  show wpAny _ _ (if (((its.size : Int) - 1) == 0 && (-1 : Int) == 1 && its.size == its.size) = true then _ else _) _ _ s
  rw [if_neg no, pick_back]
  first
    | exact wpAny_bind (m := Builtin.Tuple.tupleExact _) (wpAny_newObj_type (wpAny_pure ⟨_, rfl, wpAny_pure q⟩) hk)
    | exact wpAny_bind (m := Builtin.Tuple.tupleExact _) (wpAny_newObj_type (wpAny_bind (wpAny_pure (wpAny_pure ⟨_, rfl, wpAny_pure q⟩))) hk)
    | exact wpAny_bind (wpAny_bind (m := Builtin.Tuple.tupleExact _) (wpAny_newObj_type (wpAny_pure (wpAny_pure ⟨_, rfl, wpAny_pure q⟩)) hk))
    | exact wpAny_bind (wpAny_bind (m := Builtin.Tuple.tupleExact _) (wpAny_newObj_type (wpAny_pure ⟨_, rfl, wpAny_pure q⟩) hk))
end
section
variable {TS : TabList} {X : Cx} {a : Expr} {fa : En → Res D} {pos p1 p2 p3 : Pos} {k : Nat}
def tBackT (K : PySem.W.Frag) (te : TE) : TE := fun σ H Q => te σ H fun x H1 => ∃ a xs, x = .ref a ∧ SqT K H1 a xs ∧ ∀ p, H1 p = none → Q (.ref p) (upd H1 p (.tup xs.reverse))
theorem pe_backT {te : TE} (he : PE X a te) : PE X (.Subscript a (.Slice none none (some (.UnaryOp .USub (.Constant (.int 1) k p1) p2)) p3) pos) (tBackT X.K te) := by
  refine ⟨fun pins s0 σ H0 Q I0 hq => ?_⟩
  refine Subscript_ (thn (he.run pins s0 σ H0 _ I0 hq) fun v s ⟨x, H, I, rx, b, xs, ex, hx, q⟩ => ?_)
  subst ex
  cases rx
  have part : PO X (some (.UnaryOp .USub (.Constant (.int 1) k p1) p2)) (tPart (tUn (rU fun i => .int (-i)) (tC (.int 1)))) := po_some (pe_un un_neg pe_int)
  refine wpAny_Slice (thn (po_none.run pins s σ H (fun o H' => o = none ∧ H' = H) I ⟨rfl, rfl⟩) ?_)
  rintro vl sl ⟨l, Hl, Il, pl, el, eh⟩
  subst el eh
  refine thn (po_none.run pins sl σ Hl (fun o H' => o = none ∧ H' = Hl) Il ⟨rfl, rfl⟩) ?_
  rintro vu su ⟨u, Hu, Iu, pu, eu, eh⟩
  subst eu eh
  refine thn (part.run pins su σ Hu (fun o H' => o = some (-1) ∧ H' = Hu) Iu ⟨1, rfl, -1, rfl, rfl, rfl⟩) ?_
  rintro vs ss ⟨o, Hs, Is, ps, eo, eh⟩
  subst eo eh
  have J : Inv X pins σ Hs { ss with heap := ss.heap.push { cls := .type "slice", data := .fields #[vl, vu, vs] } } := Is.kept (t' := ss.toks) fun _ _ z => Heap.get?_push_of_some _ z
  obtain ⟨its, r, ht, hz⟩ := J.tuple hx
  have hl := r.length
  show wpAny (model X.prog X.w) X.A (subscriptTail a (.Slice none none (some (.UnaryOp .USub (.Constant (.int 1) k p1) p2)) p3) (.ref b) (.ref ss.heap.objs.size)) (EP X pins σ Q) X.xe { ss with heap := ss.heap.push { cls := .type "slice", data := .fields #[vl, vu, vs] } }
  refine tail_any (ops := [.ref b, .ref ss.heap.objs.size]) ht.typeIs PyProof.Rows.slot_tuple_getitem.lookup ?_ (by with_unfolding_all rfl)
  refine get_back ht (Heap.IsSliceOf.new _ vl vu vs) pl pu ps (by rw [List.size_toArray]; omega) ?_
  refine ⟨.ref _, _, J.laid (t' := ss.toks) (o := .tup xs.reverse) (fun _ _ z => Heap.get?_push_of_some _ z) (Nat.le_refl _) ?_, rfl, q _ (J.hok.fresh (Nat.le_refl _))⟩
  exact ⟨by rw [List.length_reverse]; exact hz, _, r.reverse, IsTup.new _ _⟩
def backD : D → Res D
  | .tuple ds => .ok (.tuple ds.reverse)
  | _ => .bad
theorem rps_app {K : PySem.W.Frag} {G : Hp} {v : V} {d : D} (r : Rp K G v d) : ∀ {vs : List V} {ds : List D}, Rps K G vs ds → Rps K G (vs ++ [v]) (ds ++ [d]) := fun h => h.app (.cons r .nil)
theorem rps_rev {K : PySem.W.Frag} {G : Hp} : ∀ {vs : List V} {ds : List D}, Rps K G vs ds → Rps K G vs.reverse ds.reverse
  | _, _, .nil => .nil
  | _, _, .cons r rs => by
    rw [List.reverse_cons, List.reverse_cons]
    exact rps_app r (rps_rev rs)
theorem de_back (ha : DE TS X a fa) : DE TS X (.Subscript a (.Slice none none (some (.UnaryOp .USub (.Constant (.int 1) k p1) p2)) p3) pos) (e1 backD fa) := by
  refine ⟨?_⟩
  intro W ρ σ G H Q tk re ok post
  refine wpE_of (pe_backT (pe_wp X a)) ?_
  unfold tBackT
  refine bindP back_E (fun Q' h => ha W ρ σ G H Q' tk re ok h) post fun v x G1 H1 _ g1 r p => ?_
  cases x with
  | tuple ds =>
    obtain ⟨b, xs, rfl, hb, rs⟩ := r.tup_inv
    refine ⟨b, xs, rfl, ex_t g1.ok.le hb, fun q hq => ?_⟩
    have g := Gr.new (o := .tup xs.reverse) g1.ok hq
    exact p _ _ _ g (.tup (.inl (.inl upd_same)) ((rps_rev rs).mono g.g))
  | _ => exact p.elim
end
end Pyr

set_option Elab.async false
set_option autoImplicit false
set_option linter.all false
set_option maxRecDepth 100000
set_option maxHeartbeats 2000000
/-! an own list's items; extend; min, max; a new list of two -/
namespace Pyr
open PySem PySem.Spec PyProof.Rows L2 Evl
section
variable {TS : TabList} {X : Cx} {a b e : Expr} {fa fb : En → Res D} {fl : En → Res (List D)} {pos : Pos}

/-! ### xs[j], xs an own list or data -/
def ownI (i : Nat) : En → Res (List D) := fun ρ => match ρ[i]? with
  | some (some (.dict [(.none, .list ds)])) => .ok ds
  | some (some (.list ds)) => .ok ds
  | _ => .bad
def eIxV (i : Nat) (fb : En → Res D) : En → Res D := fun ρ => (ownI i ρ).bind fun ds => (fb ρ).bind fun j => atD (.list ds) j
theorem own_there {K : PySem.W.Frag} {G H : Hp} {ρ : En} {σ : L2.St} {i : Nat} {ds : List D} (re : RpE TS K G H ρ σ) (ok : Ok0 TS G H) (h : ownI i ρ = .ok ds) : ∃ p vs, σ[i]? = some (some (.ref p)) ∧ SqL K H p vs ∧ (∀ G' H', Gr TS G H G' H' → SqL K H' p vs) ∧ Rps K G vs ds := by
  unfold ownI at h
  split at h
  · rename_i es he
    cases h
    obtain ⟨p, vs, h1, h2, h3⟩ := re.lo i _ he
    exact ⟨p, vs, h1, SqL.of h2, fun G' H' g => SqL.of (g.h.at h2 rfl), h3⟩
  · rename_i es he
    cases h
    obtain ⟨v, h1, r⟩ := re.at' i _ he rfl
    obtain ⟨p, vs, rfl, hp, rs⟩ := r.list_inv
    exact ⟨p, vs, h1, ex_l ok.le hp, fun G' H' g => ex_l (g.g.trans g.ok.le) hp, rs⟩
  · cases h
theorem de_ixV (i : Nat) {x : Str} {pos' : Pos} (hb : DE TS X b fb) (hN : X.N[i]? = some x := by rfl) (hv : Vis X.env.scope x := by first | exact Or.inl rfl | exact Or.inr (Or.inl rfl) | exact Or.inr (Or.inr rfl)) (hd : (x == ("__debug__" : Str)) = false := by decide) (hcd : (x == ("__classdict__" : Str)) = false := by decide)
    (hs : PlainIx b := by exact fun _ _ => rfl) : DE TS X (.Subscript (.Name x pos') b pos) (eIxV i fb) := by
  refine ⟨?_⟩
  intro W ρ σ G H Q tk re ok post
  have post : PostG (RelE X.K) TS X W σ G H ((ownI i ρ).bind fun ds => (fb ρ).bind fun j => atD (.list ds) j) Q := post
  refine wpE_of (pe_ix (ixr_wp) (pe_var hN hv hd hcd) (pe_wp X b) hs) ?_
  cases ho : ownI i ρ with
  | ok ds =>
    rw [ho] at post
    obtain ⟨p, vs, h1, h2, h3, h4⟩ := own_there re ok ho
    refine ⟨_, h1, ?_⟩
    refine bindP back_E (fun Q' h => hb W ρ σ G H Q' tk re ok h) post fun u y G2 H2 _ g2 ry p2 => ?_
    cases ry with
    | int j =>
      have p2 : PostG (RelE X.K) TS X W σ G2 H2 (match atI ds j with
        | some d => .ok d
        | none => .bad) Q := p2
      split at p2
      · rename_i d hd
        obtain ⟨w, e1, e2⟩ := atI_rel h4 hd
        exact wpI_of ix_list ⟨p, vs, j, w, rfl, rfl, h3 G2 H2 g2, e1, fin1 g2.ok p2 (e2.mono g2.g)⟩
      · exact p2.elim
    | _ => exact p2.elim
  | exc c fs =>
    unfold ownI at ho
    split at ho <;> cases ho
  | bad =>
    rw [ho] at post
    exact post.elim

/-! ### a new list of two -/
def lAdd (fa fb : En → Res D) : En → Res (List D) := fun ρ => (fa ρ).bind fun x => (fb ρ).bind fun y => match x, y with
  | .list xs, .list ys => okL (xs.length + ys.length) (.ok (xs ++ ys))
  | _, _ => .bad
theorem dl_add (ha : DE TS X a fa) (hb : DE TS X b fb) : DL TS X (.BinOp a .Add b pos) (lAdd fa fb) := by
  refine ⟨?_⟩
  intro W ρ σ G H Q tk re ok post
  refine wpE_of (pe_op op_catG (pe_wp X a) (pe_wp X b)) ?_
  refine bindP (wp := fun R => wpE X a σ H R) back_L (fun Q' p => ha W ρ σ G H Q' tk re ok p) post fun v x G1 H1 _ g1 rx p => ?_
  refine bindP (wp := fun R => wpE X b σ H1 R) back_L (fun Q' p => hb W ρ σ G1 H1 Q' tk (re.mono g1) g1.ok p) p fun u y G2 H2 _ g2 ry p => ?_
  cases x with
  | list xs =>
    cases y with
    | list ys =>
      obtain ⟨hl, p⟩ := okL_post p
      obtain ⟨l, as, rfl, h1, r1⟩ := rx.list_inv
      obtain ⟨m, bs, rfl, h2, r2⟩ := ry.list_inv
      have r1 := r1.mono g2.g
      refine ⟨l, m, as, bs, rfl, rfl, ex_l (g2.g.trans g2.ok.le) h1, ex_l g2.ok.le h2, lim_line (by rw [r1.len, r2.len]; exact hl), fun q hq => ?_⟩
      exact p _ _ _ (Gr.own (o := .lst (as ++ bs)) g2.ok hq) ⟨q, _, rfl, hq, fresh_back g2.ok.le hq, upd_same, r1.app r2⟩
    | _ => exact p.elim
  | _ => exact p.elim

/-! ### min, max -/
def intsD : List D → Option (List Int)
  | [] => some []
  | .int i :: ds => (intsD ds).map (i :: ·)
  | _ :: _ => none
theorem ints_of {K : PySem.W.Frag} {G : Hp} : ∀ {vs : List V} {ds : List D} {ns : List Int}, Rps K G vs ds → intsD ds = some ns → vs = ns.map V.int
  | _, _, _, .nil, h => by
    cases h
    rfl
  | _, _, ns, .cons r rs, h => by
    cases r <;> try cases h
    rename_i i
    unfold intsD at h
    obtain ⟨ms, h1, h2⟩ := Option.map_eq_some_iff.mp h
    subst h2
    rw [List.map_cons, ints_of rs h1]
theorem intsD_map : ∀ ns : List Int, intsD (ns.map .int) = some ns
  | [] => rfl
  | n :: ns => by
    show (intsD (ns.map .int)).map _ = _
    rw [intsD_map ns]
    rfl
def maxL : List Int → Int
  | [] => 0
  | [x] => x
  | x :: y :: r => max x (maxL (y :: r))
theorem maxL_mem : ∀ ns : List Int, ns ≠ [] → maxL ns ∈ ns
  | [], h => absurd rfl h
  | [x], _ => List.mem_cons_self
  | x :: y :: r, _ => by
    have ih := maxL_mem (y :: r) (by simp)
    show max x (maxL (y :: r)) ∈ _
    by_cases h : x ≤ maxL (y :: r)
    · rw [Int.max_eq_right h]
      exact List.mem_cons_of_mem _ ih
    · rw [Int.max_eq_left (by omega)]
      exact List.mem_cons_self
theorem maxL_le : ∀ (ns : List Int) (m : Int), m ∈ ns → m ≤ maxL ns
  | [x], m, h => by
    rw [List.mem_singleton.mp h]
    exact Int.le_refl _
  | x :: y :: r, m, h => by
    show m ≤ max x (maxL (y :: r))
    rcases List.mem_cons.mp h with rfl | h
    · exact Int.le_max_left _ _
    · exact Int.le_trans (maxL_le (y :: r) m h) (Int.le_max_right _ _)
def maxD : List D → Res D
  | [.int i, .int j] => .ok (.int (if j > i then j else i))
  | [.list ds] => match intsD ds with
    | some (n :: ns) => .ok (.int (maxL (n :: ns)))
    | _ => .bad
  | _ => .bad
def minD : List D → Res D
  | [.int i, .int j] => .ok (.int (if j < i then j else i))
  | _ => .bad
theorem run_max2 {i j : Int} : maxD [.int i, .int j] = .ok (.int (if j > i then j else i)) := rfl
theorem run_min2 {i j : Int} : minD [.int i, .int j] = .ok (.int (if j < i then j else i)) := rfl
theorem rps_two {K : PySem.W.Frag} {G : Hp} {vs : List V} {i j : Int} (r : Rps K G vs [.int i, .int j]) : vs = [.int i, .int j] := by
  cases r with
  | cons r rs => cases rs with
    | cons r2 rs2 =>
      cases rs2
      cases r
      cases r2
      rfl
theorem cd_max (C : CtE X) : CallD TS X (.builtin "max") maxD := by
  refine ⟨?_⟩
  intro W σ vs ds G H Q ok rs p
  unfold maxD at p
  split at p
  · rw [rps_two rs]
    exact wpC_of (call_max2 C.calm) ⟨_, _, rfl, fin1 ok p (.int _)⟩
  · rename_i xs
    obtain ⟨v, rfl, r⟩ := rs.one_inv
    obtain ⟨q, us, rfl, hq, r⟩ := r.list_inv
    split at p
    · rename_i n ns hn
      rw [ints_of r hn] at hq
      refine wpC_of (cr_max C.calm) ⟨q, n :: ns, rfl, ex_l ok.le hq, by simp, fun m hm hle => ?_⟩
      have e : m = maxL (n :: ns) := by
        have h1 := maxL_le _ m hm
        have h2 := hle _ (maxL_mem (n :: ns) (by simp))
        omega
      rw [e]
      exact fin1 ok p (.int _)
    · exact p.elim
  · exact p.elim
theorem cd_min (C : CtE X) : CallD TS X (.builtin "min") minD := by
  refine ⟨?_⟩
  intro W σ vs ds G H Q ok rs p
  unfold minD at p
  split at p
  · rw [rps_two rs]
    exact wpC_of (call_min2 C.calm) ⟨_, _, rfl, fin1 ok p (.int _)⟩
  · exact p.elim
theorem bt_max : bootBuiltins "max" = some (.builtin "max") := by decide +kernel
theorem bt_min : bootBuiltins "min" = some (.builtin "min") := by decide +kernel

/-! ### xs.extend(new list) -/
def sExt (i : Nat) (fl : En → Res (List D)) : Frm → Res Fl := fun ρ => match ρ[i]? with
  | some (Sl.own (.lst ds)) => (evL fl ρ).bind fun es => okL (ds.length + es.length) (.ok (.next (ρ.set i (.own (.lst (ds ++ es))))))
  | _ => .bad
theorem ds_ext (i : Nat) {x : Str} {pos' apos cpos : Pos} (he : DL TS X e fl) (hN : X.N[i]? = some x := by rfl) (hv : Vis X.env.scope x := by first | exact Or.inl rfl | exact Or.inr (Or.inl rfl) | exact Or.inr (Or.inr rfl)) (hd : (x == ("__debug__" : Str)) = false := by decide) (hcd : (x == ("__classdict__" : Str)) = false := by decide)
    (hbase : attributeBase (.Name x pos') "extend" X.env (eval (.Name x pos') X.env) = eval (.Name x pos') X.env := by rfl)
    (hfew : ((backTo cpos (starEach [e] X.env)).all (fun x => !x.1) && (backToKw cpos (keywordEach [] X.env)).all (fun x => x.1.isSome) && decide ([e].length + ([] : List Keyword).length + (if ([] : List Keyword).isEmpty then 0 else 1) < 30)) = true := by rfl)
    (hline : (apos.endLine == cpos.line) = true := by rfl) (hs : starEach [e] X.env = (false, eval e X.env) :: starEach [] X.env := by rfl) (hplain : (backTo cpos (starEach [] X.env)).any (·.1) = false := by rfl)
    (hsw : swapsWith (.Call (.Attribute (.Name x pos') "extend" apos) [e] [] cpos) none pos.line X.env = pure false := by rfl) :
    DSt TS X (.Expr (.Call (.Attribute (.Name x pos') "extend" apos) [e] [] cpos) pos) (sExt i fl) := by
  refine ⟨?_⟩
  intro W ρ σ G_0 H_0 G H fp D tk s p
  refine wpSt_of (ps_expr (pe_bm PySem.F.plainAttrs_list PySem.F.slot_list_extend PySem.F.type_list_extend mt_extend (pe_var hN hv hd hcd) (pa_cons (pe_wp X e) pa_nil hs) hbase hfew hline hs hplain) hsw) ?_
  unfold sExt at p
  split at p
  · rename_i ds hi
    obtain ⟨q, vs, h1, h2, r, z1, z2⟩ := own_at s hi
    refine ⟨_, h1, Or.inl ⟨rfl, vs, SqL.of h2⟩, ?_⟩
    refine evL_run he tk s p fun v es G1 H1 g rv p => ?_
    obtain ⟨b, us, rfl, hb0, hbG, hbH, rb⟩ := rv
    have hp : ds.length + es.length ≤ LIM ∧ PostS TS X W G_0 H_0 G D (.ok (.next (ρ.set i (.own (.lst (ds ++ es)))))) := by
      unfold okL at p
      split at p
      · exact ⟨by assumption, p⟩
      · exact p.elim
    have hq : H1 q = some (.lst vs) := g.h.at h2 rfl
    refine ⟨q, b, vs, us, rfl, rfl, hq, hbH, ?_, ?_⟩
    · rw [r.len, rb.len]
      exact Nat.le_trans hp.1 (by decide)
    · exact hp.2 σ G1 _ fp g.g ((s.grow g).change hi h1 ((r.mono g.g).app rb))
  · exact p.elim
end
end Pyr

set_option Elab.async false
set_option autoImplicit false
set_option linter.all false
set_option maxRecDepth 100000
set_option maxHeartbeats 4000000
/-! a, b, *c = a tuple -/
namespace Pyr
open PySem PySem.Spec PyProof.Rows L2 Evl
section
variable {prog : Program} {w : World} {A : Around} {E : Value → Shared → Prop} {s : Shared}
theorem star_items {t : Addr} {its : Array Value} {n : Nat} {Q : List Value → Shared → Prop} (hh : A.handled = none) (ht : IsTup s.heap t its) (hn : n ≤ its.size) (hz : its.size ≤ sizeLine)
    (q : ∀ (h' : Heap) (k : Nat), Heap.ExtBut s.heap.objs.size s.heap h' → Q (its.toList.take n ++ [.ref h'.objs.size]) { s with heap := h'.push { cls := .type "list", data := .seq (its.toList.drop n).toArray }, toks := k }) :
    wpAny (model prog w) A (unpackItems (.ref t) (n + 1) (some n)) Q E s := by
  have low : t ≠ s.heap.objs.size := by
    obtain ⟨o, ho, _⟩ := ht
    exact Nat.ne_of_lt (Heap.lt_size ho)
  unfold unpackItems
  refine wpAny_bind ?_
  unfold notIterableAtAll
  refine wpAny_bind (wpAny_specialOf ht.typeIs slot_tuple_iter.lookup (wpAny_pure ?_))
  simp only [Bool.false_eq_true, if_false]
  refine wpAny_bind (wpAny_holding (iter_tuple ht ?_))
  refine wpAny_bind (wpAny_holding (draw_tuple low n 0 _ _ ⟨_, Heap.get?_push_size _ rfl, rfl, rfl⟩ (ht.push _) (by omega) fun g1 i1 e1 => ?_))
  have t1 : IsTup g1 t its := (ht.push _).extBut e1.extBut low
  rw [Nat.zero_add] at i1
  obtain ⟨oi, hoi, _⟩ := id i1
  obtain ⟨ot, hot, _⟩ := id t1
  have hf : (its.toList.take n).length = n := by
    rw [List.length_take, Array.length_toList]
    omega
  rw [List.drop_zero, if_neg (by rw [hf]; omega)]
  refine wpAny_bind (wpAny_holding (PySem.W.kun_collect (s := { s with heap := g1 }) (T := "tuple_iterator") (.inr (.inr (.inr rfl))) (Walks.tuple (A := A.in1) hh s.heap.objs.size t low its) (fun j u st => st.1.typeIs) (k := n) hn ⟨i1, t1⟩ (Heap.lt_size hoi) (Heap.lt_size hot) (fun g2 k hk => ?_) hz))
  have hm : n + 1 - 1 - n = 0 := by omega
  show wpAny _ _ (if (its.toList.drop n).length < n + 1 - 1 - n then _ else _) _ _ _
  rw [if_neg (by rw [hm]; omega)]
  show wpAny _ _ (newList ((its.toList.drop n).take ((its.toList.drop n).length - (n + 1 - 1 - n))) >>= fun d => pure (its.toList.take n ++ [d] ++ (its.toList.drop n).drop ((its.toList.drop n).length - (n + 1 - 1 - n)))) _ _ _
  rw [hm, Nat.sub_zero, List.take_length, List.drop_length]
  refine wpAny_bind (wpAny_newList ?_ (by rw [List.length_drop, Array.length_toList]; omega))
  refine wpAny_pure ?_
  rw [List.append_nil]
  exact q g2 k fun b o hb e => hk b o hb (e1.extBut b o hb (Heap.get?_push_of_some _ e))
end
section
variable {TS : TabList} {X : Cx} {e : Expr} {fe : En → Res D} {pos p1 p2 : Pos}
theorem pgs_star {g : TG} (h : PG X e g) : PGs X [.Starred e p1] (gCons g gNil) := by
  refine ⟨fun pins s σ H vs us Q I r hq => ?_⟩
  obtain ⟨v, vr, e1, hq⟩ := hq
  subst e1
  cases r with
  | cons r rr =>
    have e2 : (assignEach [Expr.Starred e p1] X.env).map (·.2) = [assign e X.env] := rfl
    rw [e2]
    refine assignInOrder_cons (thn (h.run pins s σ H _ _ _ I r hq) fun _ s1 ⟨σ1, H1, I1, q1⟩ => ?_)
    exact pgs_nil.run pins s1 σ1 H1 _ _ Q I1 rr q1
def gStar (K : PySem.W.Frag) (n : Nat) (t : TGs) : TG := fun v σ H Q => ∃ a xs, v = .ref a ∧ SqT K H a xs ∧ n ≤ xs.length ∧ ∀ p, H p = none → t (xs.take n ++ [.ref p]) σ (upd H p (.lst (xs.drop n))) Q
theorem pg_star {es : List Expr} {k n : Nat} {t : TGs} (hc : X.calm = true) (h : PGs X es t) (hn : (assignEach es X.env).length = n + 1 := by rfl) (hst : (assignEach es X.env).findIdx? (·.1) = some n := by rfl) : PG X (.Tuple es k pos) (gStar X.K n t) := by
  refine ⟨fun pins s σ H v u Q I r hq => ?_⟩
  obtain ⟨a, xs, e1, hx, hl, hq⟩ := hq
  subst e1
  cases r
  obtain ⟨its, rv, ht, hz⟩ := I.tuple hx
  have hlen := rv.length
  rw [assign_Tuple]
  refine wpAny_bind (wpAny_standAt ?_)
  unfold unpack
  rw [hn, hst]
  refine wpAny_bind (wpAny_holding (star_items (I.ok.hd hc) ht (by rw [List.size_toArray]; omega) (by rw [List.size_toArray]; omega) fun h' m hx' => ?_))
  have I1 : Inv X pins σ H { s with heap := h', toks := m } := I.kept (t' := m) fun b o hb => hx' b o (Nat.ne_of_lt (Heap.lt_size hb)) hb
  have hf : H h'.objs.size = none := I1.hok.fresh (Nat.le_refl _)
  have I2 : Inv X pins σ (upd H h'.objs.size (.lst (xs.drop n))) { s with heap := h'.push { cls := .type "list", data := .seq (its.toArray.toList.drop n).toArray }, toks := m } :=
    I1.laid (t' := m) (o := .lst (xs.drop n)) (fun b ob z => Heap.get?_push_of_some _ z) (Nat.le_refl _) ⟨by rw [List.length_drop]; omega, its.drop n, 0, rv.drop n, Heap.get?_push_size _ rfl⟩
  have rr : Vals (xs.take n ++ [.ref h'.objs.size]) (its.toArray.toList.take n ++ [.ref h'.objs.size]) := (rv.take n).append (.cons rfl .nil)
  exact h.run pins _ σ _ _ _ Q I2 rr (hq _ hf)
def tgStarF (is : List Nat) (n : Nat) : D → Frm → Res Frm := fun d ρ => match d with
  | .tuple ds => if n ≤ ds.length ∧ is.length = n + 1 then .ok (setsF is (ds.take n ++ [.list (ds.drop n)]) ρ) else .bad
  | _ => .bad
def sSetStar (is : List Nat) (n : Nat) (fe : En → Res D) : Frm → Res Fl := fun ρ => (evP fe ρ).bind fun d => match tgStarF is n d ρ with
  | .ok ρ' => .ok (.next ρ')
  | _ => .bad
theorem ds_setStar {tg : Expr} {is : List Nat} {n : Nat} (he : DE TS X e fe) (hg : PG X tg (gStar X.K n (gMany is))) (hs : swapsWithSole [tg] e pos.line X.env = pure false := by rfl) (hw : swappedStores [tg] e X.env = pure none := by rfl)
    (h1 : (assignEach [tg] X.env).map (·.2) = [assign tg X.env] := by rfl) : DSt TS X (.Assign [tg] e pos) (sSetStar is n fe) := by
  refine ⟨?_⟩
  intro W ρ σ G_0 H_0 G H fp D tk s p
  refine wpSt_of (ps_asg (pe_wp X e) hg hs hw h1) ?_
  refine evP_run he tk s p fun v d G1 H1 g r p => ?_
  cases r with
  | @tup a xs ds hq rs =>
    have p : PostS TS X W G_0 H_0 G D (match (if n ≤ ds.length ∧ is.length = n + 1 then Res.ok (setsF is (ds.take n ++ [.list (ds.drop n)]) ρ) else .bad) with
      | .ok ρ' => .ok (.next ρ')
      | _ => .bad) := p
    split at p
    · rename_i ρ' he'
      split at he'
      · rename_i hl
        cases he'
        have s1 := s.grow g
        refine ⟨a, xs, rfl, ex_t s1.gr.ok.le hq, by rw [rs.len]; exact hl.1, fun q hq' => ?_⟩
        have g2 := Gr.new (o := .lst (xs.drop n)) s1.gr.ok hq'
        have hr : Rps X.K (upd G1 q (.lst (xs.drop n))) (xs.take n ++ [.ref q]) (ds.take n ++ [.list (ds.drop n)]) := ((rs.cut n).mono g2.g).app (.cons (.lst (.inl (.inl upd_same)) ((rs.off n).mono g2.g)) .nil)
        exact gManyF_ok is _ _ ρ σ (by rw [List.length_append, List.length_take, hl.2]; simp only [List.length_cons, List.length_nil]; omega) hr (s1.grow g2) fun σ' s' => p σ' _ _ fp (g.g.trans g2.g) s'
      · cases he'
    · exact p.elim
  | _ => exact p.elim
end
end Pyr

set_option Elab.async false
set_option autoImplicit false
set_option linter.all false
set_option maxRecDepth 100000
set_option maxHeartbeats 4000000
/-! set(xs), xs a list of texts of any number -/
namespace Pyr
open PySem PySem.Spec PyProof.Rows L2 Evl
section
variable {prog : Program} {w : World} {A : Around} {R : Result → Shared → Prop} {I : Addr} {fp wr : List Addr} {G : Array GenState → Array GenState → Prop} {n : Nat} {Pi : Nat → Value → Prop} {St : Nat → Shared → Prop}
theorem upd_loop (W : WalksS prog w A.in1 I fp wr G n Pi St) (S : Addr) (hS : S ∉ fp) (xs : List Str) (hx : xs.length = n) (room : n + 1 < scanBound) (hv : ∀ i v, Pi i v → ∃ t, v = .str (xs.getD i Str.empty) t) :
    ∀ (m i : Nat) (s : Shared), i + m = n → St i s → SetT prog w s.heap S (xs.take i) → (∀ s', Moved (S :: wr) G s s' → SetT prog w s'.heap S xs → R (.ok (.ret .none)) s') → codeAny (model prog w) A (.builtin "set.update.loop" ⟨[.ref S, .ref I], []⟩) R s := by
  have out : S ∉ wr := fun z => hS (W.sub _ z)
  have more : ∀ b ∈ wr, b ∈ S :: wr := fun b z => List.mem_cons_of_mem _ z
  intro m
  induction m with
  | zero =>
    intro i s hi st hT q
    have ei : i = n := by omega
    subst ei
    rw [← hx, List.take_length] at hT
    refine codeAny_builtin PyProof.Rows.F.entry_set_update_loop ?_
    rw [Around.under_plainId PyProof.Rows.F.plain_set_update_loop _]
    show wpAny _ A.in1 (pyNext (.ref I) >>= _) _ _ s
    refine wpAny_bind (W.done s _ _ st fun u hm => ?_)
    show wpAny _ A.in1 (ret Value.none) _ _ u
    exact wpAny_pure (q u (hm.mono more) (setT_at hT fun o ho => hm.heap S _ out ho))
  | succ m ih =>
    intro i s hi st hT q
    have lt : i < n := by omega
    refine codeAny_builtin PyProof.Rows.F.entry_set_update_loop ?_
    rw [Around.under_plainId PyProof.Rows.F.plain_set_update_loop _]
    show wpAny _ A.in1 (pyNext (.ref I) >>= _) _ _ s
    refine wpAny_bind (W.item i s _ _ lt st fun v u hp st2 hm => ?_)
    obtain ⟨t, rfl⟩ := hv i v hp
    obtain ⟨c, hc, hT⟩ := setT_at hT (h' := u.heap) fun o ho => hm.heap S _ out ho
    have hc2 : c ≤ i := by rw [List.length_take] at hc; omega
    show wpAny _ A.in1 (holding [Value.str (xs.getD i Str.empty) t] (setAdd S (.str (xs.getD i Str.empty) t)) >>= _) _ _ u
    refine wpAny_bind (wpAny_holding ?_)
    unfold setAdd
    refine wpAny_holding ?_
    refine wpAny_bind ((PySem.strKind prog w).pyHash (k := xs.getD i Str.empty) (strKind_is _ _ _ _) ?_)
    refine wpAny_setAddHashed_of (knd := PySem.strKind prog w) (s := { u with toks := u.toks + 1 }) (strKind_is _ _ _ _) rfl hT (by omega) fun g same new => ?_
    have nx : SetT prog w g S (xs.take (i + 1)) := by
      have hi2 : i < xs.length := by omega
      have e1 : xs.getD i Str.empty = xs[i] := by simp [List.getD, hi2]
      rw [e1] at new
      refine ⟨_, ?_, SetOf_congr new (fun k => ?_) rfl⟩
      · rw [List.length_take]
        split <;> omega
      · rw [List.take_succ_eq_append_getElem hi2, Bool.eq_iff_iff]
        simp only [List.mem_append, List.mem_singleton, Bool.or_eq_true, decide_eq_true_eq]
    refine wpAny_pure ⟨plainId_quiet PyProof.Rows.F.plain_set_update_loop _, ih (i + 1) _ (by omega) (W.frame _ u _ _ st2 (Nat.le_succ _) fun b hb o e => ?_) nx fun u2 hm2 hT2 => ?_⟩
    · rw [same.2 b fun z : b = S => hS (by rw [← z]; exact hb)]
      exact e
    · refine q u2 (Moved.trans W.gtrans ((hm.mono more).then_heap (Nat.le_succ _) fun b o hb e => ?_) hm2) hT2
      rw [same.2 b fun z : b = S => hb (by rw [z]; exact List.mem_cons_self)]
      exact e
end
section
variable {prog : Program} {w : World} {A : Around} {E : Value → Shared → Prop} {s : Shared}
theorem set_of_texts {l : Addr} {its : Array Value} {xs : List Str} {Q : Value → Shared → Prop} (hh : A.handled = none) (hl : s.heap.IsList l its) (hi : PyProof.Rows.StrsAre its.toList xs) (room : its.size + 1 < scanBound)
    (q : ∀ (g : Heap) (k : Nat), SetT prog w g s.heap.objs.size xs → (∀ b o, b < s.heap.objs.size → s.heap.get? b = some o → g.get? b = some o) → Q (.ref s.heap.objs.size) { s with heap := g, toks := k }) :
    wpAny (model prog w) A (call (.type "set") [.ref l]) Q E s := by
  have hx : xs.length = its.size := by
    rw [← Array.length_toList]
    exact (StrsAre.length hi).symm
  obtain ⟨c, tl, hmro⟩ := PySem.F.called_set.mro
  have made := PySem.F.called_set.made
  have sub := PySem.F.called_set.sub
  refine wpAny_call (codeAny_of_tree ?_)
  show wpAny _ _ (callAny (.type "set") _) _ _ _
  refine wpAny_pure ⟨Code.quiet_builtin _ (by decide +kernel), codeAny_builtin PySem.F.entry_type_call ?_⟩
  rw [Around.under_plain (weight_type_call_type "set" [.ref l] []) rfl]
  have n1 := PySem.F.called_set.notType
  have n2 := PySem.F.called_set.canCreate
  have n3 := PySem.F.typeCall_set_1 (.ref l)
  repeat (any_goals (first | assumption | wp_step))
  refine codeAny_mono (code_set_new_1 (.ref l) (E := E) (Q₁ := fun z u => ∃ led : Bool, z = .ref s.heap.objs.size ∧ u = { s with heap := s.heap.push { cls := .type "set", dict := none, data := .set #[] 0 (.fresh 0 0 led) } }) fun led => ⟨led, rfl, rfl⟩) fun r u hr => ?_
  cases r with
  | error e => exact hr
  | ok fl =>
    cases fl with
    | ret z =>
      obtain ⟨led, rfl, rfl⟩ := hr
      generalize ob : ({ cls := .type "set", dict := none, data := .set #[] 0 (.fresh 0 0 led) } : Obj) = sob
      have here : (s.heap.push sob).get? s.heap.objs.size = some sob := Heap.get?_push_size _ (by rw [← ob]; rfl)
      have ty : Shared.TypeIs { s with heap := s.heap.push sob } (.ref s.heap.objs.size) "set" := ⟨_, here, by rw [← ob]⟩
      have n4 := PySem.F.called_set.init.lookup
      have n5 := PySem.F.called_set.init.bind (.ref s.heap.objs.size)
      repeat (any_goals (first | assumption | wp_step))
      refine codeAny_mono (codeAny_call_builtin (R := wants (fun r u => r = .none ∧ ∃ g k, u = { s with heap := g, toks := k } ∧ SetT prog w g s.heap.objs.size xs ∧ (∀ b o, b < s.heap.objs.size → s.heap.get? b = some o → g.get? b = some o)) E) PySem.F.called_set.init.plain PySem.F.entry_set_init (check_set_init_1 ty ?_)) fun r2 u2 hr2 => ?_
      · have hl1 : (s.heap.push sob).IsList l its := hl.push _
        obtain ⟨ol, hol, hcl, nl, hdl⟩ := id hl1
        have tl : Shared.TypeIs { s with heap := s.heap.push sob } (.ref l) "list" := ⟨ol, hol, hcl⟩
        have lt : l < s.heap.objs.size := by
          obtain ⟨o, ho, _⟩ := hl
          exact Heap.lt_size ho
        have k1 := PySem.F.sub_list_set
        have k2 := PySem.F.sub_list_frozenset
        have k3 : (Value.type "list" == Value.type "dict") = false := by decide
        unfold Builtin.«set.__init__» noKeywords Builtin.Frozenset.updateFrom
        obtain ⟨c1, c2, c3, c4⟩ := ol
        simp only at hcl hdl
        subst hcl hdl ob
        generalize hP : pyIter = walk
        wp_walk
        subst hP
        refine wpAny_pyIter_list hl1 (wpAny_bind (wpAny_runValue ?_))
        have ne : l ≠ (s.heap.push { cls := .type "set", dict := none, data := .set #[] 0 (.fresh 0 0 led) }).objs.size := by
          rw [Heap.size_push]
          exact Nat.ne_of_lt (Nat.lt_succ_of_lt lt)
        have apart : s.heap.objs.size ∉ [(s.heap.push { cls := .type "set", dict := none, data := .set #[] 0 (.fresh 0 0 led) }).objs.size, l] := by
          rw [Heap.size_push]
          simp only [List.mem_cons, List.not_mem_nil, or_false, not_or]
          exact ⟨Nat.ne_of_lt (Nat.lt_succ_self _), Nat.ne_of_gt lt⟩
        have vals : ∀ (i : Nat) (v : Value), its[i]? = some v → ∃ t, v = .str (xs.getD i Str.empty) t := fun i v hv => by
          obtain ⟨y, t, e1, e2⟩ := StrsAre.item hi i v (by rw [Array.getElem?_toList]; exact hv)
          exact ⟨t, by rw [e1, List.getD_eq_getElem?_getD, e2]; rfl⟩
        have calm : A.in1.in1.in1.handled = none := by simp [hh]
        refine upd_loop ((Walks.list calm _ l ne its).toS) s.heap.objs.size apart xs hx room vals its.size 0 _ (by omega) ⟨⟨_, Heap.get?_push_size _ rfl, rfl, rfl⟩, hl1.push _⟩ ?_ fun u hm hT => ?_
        · have at0 : ((s.heap.push { cls := .type "set", dict := none, data := .set #[] 0 (.fresh 0 0 led) }).push { cls := .type "list_iterator", data := .fields #[.ref l, .int 0 0] }).get? s.heap.objs.size = some { cls := .type "set", dict := none, data := .set #[] 0 (.fresh 0 0 led) } := Heap.get?_push_of_some _ here
          exact ⟨0, Nat.zero_le _, SetOf_congr ((PyProof.Rows.setObjOf_fresh (knd := PySem.strKind prog w) led).setOf at0 (by unfold scanBound; omega)) (fun k => by simp) rfl⟩
        · obtain ⟨g, x1, x2, k, x3⟩ := u
          have q1 : x1 = s.gens := hm.gens
          have q2 : x2 = s.drawn := hm.drawn
          have q3 : x3 = s.os := hm.os
          subst q1 q2 q3
          show wpAny _ _ _ _ _ _
          refine wpAny_pure ?_
          show wpAny _ _ (ret Value.none) _ _ _
          refine wpAny_pure ⟨rfl, g, k, rfl, hT, fun b o hb e => ?_⟩
          refine hm.heap b o ?_ (Heap.get?_push_of_some _ (Heap.get?_push_of_some _ e))
          rw [Heap.size_push]
          simp only [List.mem_cons, List.not_mem_nil, or_false, not_or]
          exact ⟨Nat.ne_of_lt hb, Nat.ne_of_lt (Nat.lt_succ_of_lt hb)⟩
      · cases r2 with
        | error e => exact hr2
        | ok f2 =>
          cases f2 with
          | ret r =>
            obtain ⟨rfl, g, k, rfl, h1, h2⟩ := hr2
            repeat (any_goals (first | assumption | wp_step))
            exact q g k h1 h2
          | _ => exact hr2.elim
    | _ => exact hr.elim
end
/-! ### the rules -/
def strB : D → Bool
  | .str _ => true
  | _ => false
def keysC (ds : List D) : Bool := keysB ds && ds.all tupB && ds.all (fun d => decide (d.depth ≤ 8)) && decide (ds.length ≤ 63)
/-- the items of a list that may go into a set: texts, or tuples that are keys -/
def textsD : D → Res (List D)
  | .list ds => if (ds.all strB && decide (ds.length ≤ 4000) && !ds.isEmpty) = true then .ok ds else if keysC ds then .ok ds else .bad
  | _ => .bad
/-- set(e) in a new name -/
def sSetS (i : Nat) (fe : En → Res D) : Frm → Res Fl := fun ρ => (evP fe ρ).bind fun x => (textsD x).bind fun ds => .ok (.next (ρ.set i (.own (.set ds))))
def setI (i : Nat) : En → Res (List D) := fun ρ => match ρ[i]? with
  | some (some (.dict [(.bool true, .list ds)])) => .ok ds
  | _ => .bad
/-- x in the set of slot i (neg: not in) -/
def eInS (neg : Bool) (i : Nat) (fa : En → Res D) : En → Res Bool := fun ρ => (fa ρ).bind fun x => (setI i ρ).bind fun ds => match x with
  | .str y => if ds.all strB then .ok (neg != ds.any fun z => PyData.eqv z (.str y)) else .bad
  | .tuple xs => if (keysB xs && decide ((PyData.tuple xs).depth ≤ 8) && ds.all tupB) = true then .ok (neg != ds.any fun z => decide (nk z = nk (.tuple xs))) else .bad
  | _ => .bad
theorem key_parts {ds : List D} (h : keysC ds = true) : keysB ds = true ∧ (∀ d ∈ ds, tupB d = true) ∧ (∀ d ∈ ds, d.depth ≤ 8) ∧ ds.length ≤ 63 := by
  unfold keysC at h
  simp only [Bool.and_eq_true, decide_eq_true_eq] at h
  exact ⟨h.1.1.1, fun d hd => List.all_eq_true.mp h.1.1.2 d hd, fun d hd => of_decide_eq_true (List.all_eq_true.mp h.1.2 d hd), h.2⟩
section
variable {X : Cx} {pins : List (Addr × Obj)} {σ : L2.St} {H : Hp} {s : Shared}
mutual
theorem key_at (I : Inv X pins σ H s) : ∀ (d : D) (v : V) (u : Value), Rp X.K H v d → keyB d = true → RelV v u → NestedIs s.heap (nk d) u
  | .int i, _, u, r, _, ru => by
    cases r
    obtain ⟨t, rfl⟩ := (show ∃ t, u = Value.int i t from ru)
    exact .int i t
  | .str x, _, u, r, _, ru => by
    cases r
    obtain ⟨t, rfl⟩ := (show ∃ t, u = Value.str x t from ru)
    exact .text x t
  | .tuple ds, _, u, r, k, ru => by
    cases r with
    | tup sq rs =>
      cases (show u = Value.ref _ from ru)
      obtain ⟨its, rv, ⟨o, ho, hc, n, hd⟩, _⟩ := I.tuple sq
      exact .tup ho hc hd (by simpa using keys_at I ds _ _ rs k rv)
  | .none, _, _, _, k, _ => by simp [keyB] at k
  | .bool _, _, _, _, k, _ => by simp [keyB] at k
  | .list _, _, _, _, k, _ => by simp [keyB] at k
  | .dict _, _, _, _, k, _ => by simp [keyB] at k
theorem keys_at (I : Inv X pins σ H s) : ∀ (ds : List D) (vs : List V) (us : List Value), Rps X.K H vs ds → keysB ds = true → Vals vs us → NestedAll s.heap (nks ds) us
  | [], _, _, r, _, ru => by
    cases r
    cases ru
    exact .nil
  | d :: ds, _, _, r, k, ru => by
    rw [keysB, Bool.and_eq_true] at k
    cases r with
    | cons r rs =>
      cases ru with
      | cons ru rus => exact .cons (key_at I d _ _ r k.1 ru) (keys_at I ds _ _ rs k.2 rus)
end
end
theorem keysB_mem : ∀ {ds : List D}, keysB ds = true → ∀ d ∈ ds, keyB d = true
  | _ :: ds, h, d, hd => by
    rw [keysB, Bool.and_eq_true] at h
    cases hd with
    | head => exact h.1
    | tail _ hd => exact keysB_mem h.2 d hd
theorem nks_map : ∀ ds : List D, nks ds = ds.map nk
  | [] => rfl
  | d :: ds => by rw [nks, nks_map ds]; rfl
/-- tuples stand at addresses -/
theorem refs_of {K : PySem.W.Frag} {G : Hp} : ∀ {vs : List V} {ds : List D}, Rps K G vs ds → (∀ d ∈ ds, tupB d = true) → ∃ ps : List (Addr × NestedKey), vs = ps.map (fun e => V.ref e.1) ∧ nks ds = ps.map (·.2)
  | _, _, .nil, _ => ⟨[], rfl, rfl⟩
  | _, _, .cons (v := v) (d := d) r rs, h => by
    obtain ⟨ps, e1, e2⟩ := refs_of rs fun x hx => h x (List.mem_cons_of_mem _ hx)
    have hd := h d List.mem_cons_self
    obtain ⟨a, rfl⟩ : ∃ a, v = V.ref a := by
      cases r <;> first | exact ⟨_, rfl⟩ | cases hd
    exact ⟨(a, nk d) :: ps, by rw [e1]; rfl, by rw [nks, e2]; rfl⟩
theorem one_of {K : PySem.W.Frag} {G : Hp} {ps : List (Addr × NestedKey)} {ds : List D} (r : Rps K G (ps.map fun e => V.ref e.1) ds) (hk : nks ds = ps.map (·.2)) : ∀ e ∈ ps, ∃ d ∈ ds, Rp K G (.ref e.1) d ∧ nk d = e.2 := by
  induction ps generalizing ds with
  | nil => intro e he; cases he
  | cons p ps ih =>
    cases r with
    | @cons _ _ d ds r rs =>
      simp only [nks, List.map_cons, List.cons.injEq] at hk
      intro e he
      cases he with
      | head => exact ⟨d, List.mem_cons_self, r, hk.1⟩
      | tail _ he =>
        obtain ⟨d', h1, h2⟩ := ih rs hk.2 e he
        exact ⟨d', List.mem_cons_of_mem _ h1, h2⟩
theorem keys_in {X : Cx} {pins : List (Addr × Obj)} {σ : L2.St} {H : Hp} {s : Shared} {ps : List (Addr × NestedKey)} {ds : List D} (I : Inv X pins σ H s) (r : Rps X.K H (ps.map fun e => V.ref e.1) ds) (hk : nks ds = ps.map (·.2)) (hb : keysB ds = true) (hd : ∀ d ∈ ds, d.depth ≤ 8) : ∀ e ∈ ps, KAt s.heap e.2 e.1 := fun e he => by
  obtain ⟨d, d1, d2, d3⟩ := one_of r hk e he
  rw [← d3]
  exact ⟨key_at I d _ _ d2 (keysB_mem hb d d1) rfl, Nat.le_trans (nk_depth d) (hd d d1)⟩
theorem refs_vals : ∀ {ps : List (Addr × NestedKey)} {us : List Value}, Vals (ps.map fun e => V.ref e.1) us → us = ps.map fun e => Value.ref e.1
  | [], _, r => by cases r; rfl
  | p :: ps, _, r => by
    cases r with
    | cons r rs =>
      cases (show _ = Value.ref p.1 from r)
      rw [refs_vals rs]
      rfl
theorem keyO_get {X : Cx} {pins : List (Addr × Obj)} {σ : L2.St} {H : Hp} {s : Shared} {a : Addr} {ps : List (Addr × NestedKey)} (I : Inv X pins σ H s) (ha : H a = some (keyO X.prog X.w a ps)) : KeyS X.prog X.w s.heap a ps := (I.hok a _ ha).1
/-- an empty set of keys is an empty set of texts -/
theorem KeyS.none {P : Program} {w : World} {h : Heap} {a : Addr} (S : KeyS P w h a []) : h.SetOf (PySem.strKind P w) a (fun _ => false) 0 := by
  obtain ⟨L, es, ep, t, R, sub, _⟩ := S.full fun e he => (by cases he)
  have : L = [] := List.eq_nil_iff_forall_not_mem.mpr fun e he => nomatch sub e he
  subst this
  obtain ⟨o, ho, hex, hd⟩ := R.here
  have z := R.cont
  have z2 : es = #[] := by
    cases es
    simp only [entN, List.map_nil] at z
    rw [z]
  have ft := SetN.fit (s := { heap := h }) R
  subst z2
  exact ⟨o, #[], ep, t, ho, hex, hd, fun e he => (by simp at he), fun k => by simp, by decide, ft, rfl⟩
section
variable {TS : TabList} {X : Cx} {a e : Expr} {fa : En → Res D} {pos : Pos}
theorem texts_of {K : PySem.W.Frag} {G : Hp} : ∀ {vs : List V} {ds : List D}, Rps K G vs ds → ds.all strB = true → ∃ xs : List Str, vs = xs.map V.str ∧ ds = xs.map .str
  | _, _, .nil, _ => ⟨[], rfl, rfl⟩
  | _, _, .cons (d := d) r rs, h => by
    rw [List.all_cons, Bool.and_eq_true] at h
    obtain ⟨xs, e1, e2⟩ := texts_of rs h.2
    cases r with
    | str x => exact ⟨x :: xs, by rw [e1]; rfl, by rw [e2]; rfl⟩
    | _ => exact absurd h.1 (by simp [strB])
theorem strsAre_of : ∀ {xs : List Str} {us : List Value}, Vals (xs.map V.str) us → PyProof.Rows.StrsAre us xs
  | [], _, r => by
    cases r
    exact .nil
  | x :: xs, _, r => by
    cases r with
    | cons r rs =>
      obtain ⟨t, rfl⟩ := (show ∃ t, _ = Value.str x t from r)
      exact .cons x t (strsAre_of rs)
theorem cr_set (hA : X.calm = true) {p : Addr} {xs : List Str} {H : Hp} {Q : VK} (hp : SqL X.K H p (xs.map V.str)) (hl : xs.length ≤ 4000) (q : ∀ l, H l = none → Q (.ref l) (upd H l (setO X.prog X.w l (xs.map .str)))) : wpC X (.type "set") [.ref p] H Q := by
  intro pins s σ us I r
  obtain ⟨u, rfl, rx⟩ := vals1 r
  cases rx
  obtain ⟨its, r', pl, hz⟩ := I.list hp
  have hlen := r'.length
  refine set_of_texts (I.ok.hd hA) pl.isList (strsAre_of r') ?_ fun g k hT kp => ?_
  · rw [List.length_map] at hlen
    rw [List.size_toArray, ← hlen]
    exact Nat.lt_of_le_of_lt (Nat.succ_le_succ hl) (by decide)
  · have kp' : ∀ b o, s.heap.get? b = some o → g.get? b = some o := fun b o h => kp b o (Heap.lt_size h) h
    refine ⟨.ref s.heap.objs.size, _, I.laid (t' := k) kp' (Nat.le_refl _) (show ObjOk X.prog X.w _ g _ (setO X.prog X.w s.heap.objs.size (xs.map .str)) from ⟨.txt xs hT, ?_, fun h1 h2 z st => z.at st⟩), rfl, q _ (I.hok.fresh (Nat.le_refl _))⟩
    obtain ⟨n, _, o, es, ep, t, ho, _⟩ := hT
    exact ⟨o, ho⟩
theorem cr_setK (C : CtE X) {p : Addr} {ps : List (Addr × NestedKey)} {ds : List D} {G H : Hp} {Q : VK} (hG : Ex G H) (hp : SqL X.K H p (ps.map fun e => V.ref e.1)) (r : Rps X.K G (ps.map fun e => V.ref e.1) ds) (hk : nks ds = ps.map (·.2)) (hc : keysC ds = true) (q : ∀ l, H l = none → Q (.ref l) (upd H l (keyO X.prog X.w l ps))) : wpC X (.type "set") [.ref p] H Q := by
  intro pins s σ us I rv
  obtain ⟨u, rfl, rx⟩ := vals1 rv
  cases rx
  obtain ⟨its, r', pl, hz⟩ := I.list hp
  obtain ⟨kb, _, dp, len⟩ := key_parts hc
  have pl2 : ps.length = ds.length := by
    have := congrArg List.length hk
    rw [nks_map, List.length_map, List.length_map] at this
    exact this.symm
  refine set_of_keys (ps := ps) (I.ok.hd C.calm) pl.isList (by simpa using refs_vals r') (keys_in I (r.mono hG) hk kb dp) (by omega) C.un fun g k S kp => ?_
  exact ⟨.ref s.heap.objs.size, _, I.laid (t' := k) kp (Nat.le_refl _) (keyO_ok S), rfl, q _ (I.hok.fresh (Nat.le_refl _))⟩
theorem SI.storeS {G_0 H_0 G H : Hp} {ρ : Frm} {σ : L2.St} {fp : Nat → List Addr} {i : Nat} {l : Addr} {ds : List Pyr.D} (s : SI TS X.K G_0 H_0 ρ σ G H fp) (hl : H l = none) {o : HO} (r : StAt TS X.K G (upd H l o) l ds) : ∃ fp', SI TS X.K G_0 H_0 (ρ.set i (.own (.set ds))) (σ.set i (some (.ref l))) G (upd H l o) fp' := by
  refine ⟨_, (s.grow (Gr.own s.gr.ok hl)).setOwn (.set r) (fun a ha => ?_) fun j u hj _ a ha hb => ?_⟩
  · rw [List.mem_singleton.mp ha]
    exact ⟨fresh_back s.gr.ok.le hl, s.gr.h.old l hl⟩
  · rw [List.mem_singleton.mp ha] at hb
    obtain ⟨v2, _, h2⟩ := s.own j u hj
    obtain ⟨w, hw, _⟩ := h2.there l hb
    rw [hl] at hw
    cases hw
theorem ds_setS (i : Nat) {y : Str} {p p' spos : Pos} (hP : TS.P = X.prog) (hw : TS.w = X.w) (ha : DE TS X a fa) (C : CtE X) (hg : Gl X "set") (hm : X.mg "set" = none) (hv : bootBuiltins "set" = some (.type "set"))
    (hi : X.N[i]? = some y := by rfl) (hx : Loc X.env.scope y := by first | exact Or.inl rfl | exact Or.inr rfl) (he : starEach [a] X.env = (false, eval a X.env) :: starEach [] X.env := by rfl) (hpl : (backTo pos (starEach [] X.env)).any (·.1) = false := by rfl)
    (hs : swapsWith (.Call (.Name "set" p) [a] [] pos) (some (.Name y p')) spos.line X.env = pure false := by rfl) (hf : X.fn y = true ∨ X.env.scope.names.lookup y = some .local := by first | exact .inl rfl | exact .inr rfl) :
    DSt TS X (.Assign [.Name y p'] (.Call (.Name "set" p) [a] [] pos) spos) (sSetS i fa) := by
  refine ⟨?_⟩
  intro W ρ σ G_0 H_0 G H fp D tk s post
  refine wpSt_of (ps_set C.nd hi hx (pe_wp X _) hs hf) ?_
  refine wpE_of (pe_callTy (cr_wp _) hg hm hv (pa_cons (pe_wp X a) pa_nil he) (by decide) (by decide) he hpl) ?_
  refine evP_run ha tk s post fun v d G1 H1 g r p2 => ?_
  unfold textsD at p2
  split at p2
  · rename_i ds
    obtain ⟨q, vs, rfl, hq, rs⟩ := r.list_inv
    split at p2
    · rename_i hc
      simp only [Bool.and_eq_true, decide_eq_true_eq, Bool.not_eq_true', List.isEmpty_eq_false_iff] at hc
      obtain ⟨⟨hall, hlen⟩, hne⟩ := hc
      obtain ⟨xs, e1, e2⟩ := texts_of rs hall
      subst e1 e2
      rw [List.length_map] at hlen
      refine cr_set C.calm (ex_l g.ok.le hq) hlen fun l hl => ?_
      obtain ⟨fp', s'⟩ := (s.grow g).storeS (i := i) (ds := xs.map .str) hl (o := setO X.prog X.w l (xs.map .str)) ⟨.inl ⟨⟨hne, fun z => by cases xs <;> cases z⟩, by rw [hP, hw]; exact upd_same⟩⟩
      exact p2 _ G1 _ fp' g.g s'
    · split at p2
      · rename_i hc
        obtain ⟨kb, tb, dp, len⟩ := key_parts hc
        obtain ⟨ps, e1, e2⟩ := refs_of rs tb
        subst e1
        refine cr_setK C g.ok.le (ex_l g.ok.le hq) rs e2 hc fun l hl => ?_
        obtain ⟨fp', s'⟩ := (s.grow g).storeS (i := i) (ds := ds) hl (o := keyO X.prog X.w l ps) ⟨.inr (.inl ⟨ps, by rw [hP, hw]; exact upd_same, rs, e2, kb, dp⟩)⟩
        exact p2 _ G1 _ fp' g.g s'
      · exact p2.elim
  · exact p2.elim
theorem any_str {xs : List Str} {y : Str} : ((xs.map PyData.str).any fun z => PyData.eqv z (.str y)) = decide (y ∈ xs) := by
  induction xs with
  | nil => simp
  | cons x xs ih =>
    rw [List.map_cons, List.any_cons, ih]
    by_cases h : x = y
    · subst h
      simp [PyData.eqv]
    · have h2 : ¬ y = x := fun z => h z.symm
      simp [PyData.eqv, h, h2]
theorem we_inS (i : Nat) {neg : Bool} {x : Str} {W : WX} {ρ : En} {σ : L2.St} {G H : Hp} {Q : Bool → Hp → Prop} (hP : TS.P = X.prog) (hw : TS.w = X.w) (hu : X.A.units + 65 < cLine) (ha : DE TS X a fa) (hN : X.N[i]? = some x) (tk : Takes X W) (re : RpE TS X.K G H ρ σ) (ok : Ok0 TS G H) (post : PostG RelT TS X W σ G H (eInS neg i fa ρ) Q) :
    wpE X a σ H fun v H1 => ∃ u, σ[i]? = some (some u) ∧ wpO X (compareOp (if neg then .NotIn else .In)) v u H1 fun z H2 => ∃ k, z = .bl k ∧ Q k H2 := by
  refine bindP (Ra := RelE X.K) (wp := fun R => wpE X a σ H R) back_T (fun Q' h => ha W ρ σ G H Q' tk re ok h) post fun v d G1 H1 _ g1 rx p1 => ?_
  unfold setI at p1
  split at p1
  · rename_i ds hd
    obtain ⟨l, h1, h2⟩ := (re.mono g1).st i ds hd
    refine ⟨_, h1, ?_⟩
    cases rx with
    | str y =>
      have p1 : PostG RelT TS X W σ G1 H1 (if ds.all strB then .ok (neg != ds.any fun z => PyData.eqv z (.str y)) else .bad) Q := p1
      split at p1
      · rename_i hall
        intro pins s σ' v u I rv ru
        obtain ⟨t, rfl⟩ := (show ∃ t, v = Value.str y t from rv)
        cases (show u = Value.ref l from ru)
        have hS : ∃ xs : List Str, ds = xs.map .str ∧ ∃ n, s.heap.SetOf (PySem.strKind X.prog X.w) l (fun k => decide (k ∈ xs)) n := by
          rcases h2.ex with ⟨_, h3⟩ | ⟨ps, h3, r3, h4, _⟩ | ⟨ys, es, e3, _⟩
          · obtain ⟨hD, _, _⟩ := (show _ ∧ _ ∧ _ from I.hok l _ h3)
            rw [hP, hw] at hD
            cases hD with
            | txt xs hT =>
              obtain ⟨n, _, hS⟩ := hT
              exact ⟨xs, rfl, n, hS⟩
          · have e0 : ps = [] ∧ ds = [] := by
              cases ps with
              | nil => cases r3; exact ⟨rfl, rfl⟩
              | cons p ps =>
                cases r3 with
                | cons r3 _ =>
                  rw [List.all_cons, Bool.and_eq_true] at hall
                  cases r3 <;> cases hall.1
            obtain ⟨rfl, rfl⟩ := e0
            rw [hP, hw] at h3
            exact ⟨[], rfl, 0, by simpa using (keyO_get I h3).none⟩
          · rw [e3] at hall
            cases hall
        obtain ⟨xs, rfl, n, hS⟩ := hS
        rw [any_str] at p1
        cases neg with
        | true =>
          refine wpAny_notInSet_of (knd := PySem.strKind X.prog X.w) (k := y) (strKind_is _ _ _ _) rfl hS ?_
          refine ⟨.bl (!decide (y ∈ xs)), H1, I.tok _, rfl, _, rfl, ?_⟩
          have := p1 _ G1 H1 (Gr.refl g1.ok) rfl
          simpa using this
        | false =>
          refine wpAny_inSet_of (knd := PySem.strKind X.prog X.w) (k := y) (strKind_is _ _ _ _) rfl hS ?_
          refine ⟨.bl (decide (y ∈ xs)), H1, I.tok _, rfl, _, rfl, ?_⟩
          have := p1 _ G1 H1 (Gr.refl g1.ok) rfl
          simpa using this
      · exact p1.elim
    | @tup xa vs xs sq rxs =>
      have p1 : PostG RelT TS X W σ G1 H1 (if (keysB xs && decide ((PyData.tuple xs).depth ≤ 8) && ds.all tupB) = true then .ok (neg != ds.any fun z => decide (nk z = nk (.tuple xs))) else .bad) Q := p1
      split at p1
      · rename_i hc
        simp only [Bool.and_eq_true, decide_eq_true_eq] at hc
        obtain ⟨⟨kx, dx⟩, tb⟩ := hc
        rcases h2.ex with ⟨hne, h3⟩ | ⟨ps, h3, r3, h4, kb, dp⟩ | ⟨ys, es, e3, _⟩
        · intro pins s σ' v u I rv ru
          obtain ⟨hD, _, _⟩ := (show _ ∧ _ ∧ _ from I.hok l _ h3)
          cases hD with
          | txt ys hT =>
            cases ys with
            | nil => exact absurd rfl hne.1
            | cons y ys =>
              rw [List.map_cons, List.all_cons, Bool.and_eq_true] at tb
              cases tb.1
        · intro pins s σ' v u I rv ru
          rw [hP, hw] at h3
          cases (show v = Value.ref xa from rv)
          cases (show u = Value.ref l from ru)
          have mem : (ds.any fun z => decide (nk z = nk (.tuple xs))) = decide (nk (.tuple xs) ∈ ps.map (·.2)) := by
            rw [← h4, nks_map, Bool.eq_iff_iff, List.any_eq_true, decide_eq_true_eq, List.mem_map]
            simp only [decide_eq_true_eq]
          have xk : KAt s.heap (nk (.tuple xs)) xa := ⟨key_at I _ _ _ ((Rp.tup sq rxs).mono g1.ok.le) kx rfl, Nat.le_trans (nk_depth _) dx⟩
          refine in_keys (keyO_get I h3) (keys_in I (r3.mono g1.ok.le) h4 kb dp) xk (by omega) fun tk' => ?_
          refine ⟨.bl (neg != decide (nk (.tuple xs) ∈ ps.map (·.2))), H1, I.tok _, rfl, _, rfl, ?_⟩
          rw [← mem]
          exact p1 _ G1 H1 (Gr.refl g1.ok) rfl
        · rw [e3] at tb
          cases tb
      · exact p1.elim
    | _ => exact p1.elim
  · exact p1.elim
theorem dt_inS (i : Nat) {x : Str} {p' : Pos} (hP : TS.P = X.prog) (hw : TS.w = X.w) (hu : X.A.units + 65 < cLine) (ha : DE TS X a fa) (hN : X.N[i]? = some x := by rfl) (hv : Vis X.env.scope x := by first | exact Or.inl rfl | exact Or.inr (Or.inl rfl) | exact Or.inr (Or.inr rfl)) (hd : (x == ("__debug__" : Str)) = false := by decide) (hcd : (x == ("__classdict__" : Str)) = false := by decide) :
    DT TS X (.Compare a [.In] [.Name x p'] pos) (eInS false i fa) := by
  refine ⟨?_⟩
  intro W ρ σ G H Q tk re ok post
  exact wpT_of (pt_cmpR (opr_wp _) (pe_wp X a) (pe_var hN hv hd hcd) rfl) (we_inS i (neg := false) hP hw hu ha hN tk re ok post)
theorem dt_notInS (i : Nat) {x : Str} {p' : Pos} (hP : TS.P = X.prog) (hw : TS.w = X.w) (hu : X.A.units + 65 < cLine) (ha : DE TS X a fa) (hN : X.N[i]? = some x := by rfl) (hv : Vis X.env.scope x := by first | exact Or.inl rfl | exact Or.inr (Or.inl rfl) | exact Or.inr (Or.inr rfl)) (hd : (x == ("__debug__" : Str)) = false := by decide) (hcd : (x == ("__classdict__" : Str)) = false := by decide) :
    DT TS X (.Compare a [.NotIn] [.Name x p'] pos) (eInS true i fa) := by
  refine ⟨?_⟩
  intro W ρ σ G H Q tk re ok post
  exact wpT_of (pt_cmpR (opr_wp _) (pe_wp X a) (pe_var hN hv hd hcd) rfl) (we_inS i (neg := true) hP hw hu ha hN tk re ok post)
theorem bt_set : bootBuiltins "set" = some (.type "set") := by decide +kernel
/-! ### running -/
theorem setS_ok {i : Nat} {fe : En → Res D} {ρ : Frm} {ds : List D} (h : fe (purE ρ) = .ok (.list ds)) (ht : textsD (.list ds) = .ok ds) : sSetS i fe ρ = .ok (.next (ρ.set i (.own (.set ds)))) := by
  unfold sSetS
  rw [evP_ok h]
  show (textsD (.list ds)).bind _ = _
  rw [ht]
  rfl
theorem all_str (xs : List Str) : (xs.map PyData.str).all strB = true := by
  rw [List.all_eq_true]
  intro d hd
  obtain ⟨x, _, rfl⟩ := List.mem_map.mp hd
  rfl
theorem texts_ok {xs : List Str} (h : xs.length ≤ 4000) : textsD (.list (xs.map .str)) = .ok (xs.map .str) := by
  cases xs with
  | nil => rfl
  | cons x xs =>
    unfold textsD
    simp only
    rw [if_pos]
    rw [all_str, List.length_map, decide_eq_true h]
    rfl
theorem keysC_of {ds : List D} (h1 : ∀ d ∈ ds, keyB d = true ∧ tupB d = true ∧ d.depth ≤ 8) (h2 : ds.length ≤ 63) : keysC ds = true := by
  unfold keysC
  have kb : ∀ {ds : List D}, (∀ d ∈ ds, keyB d = true) → keysB ds = true := by
    intro ds
    induction ds with
    | nil => intro _; rfl
    | cons d ds ih =>
      intro h
      rw [keysB, h d List.mem_cons_self, ih fun e he => h e (List.mem_cons_of_mem _ he)]
      rfl
  rw [kb fun d hd => (h1 d hd).1, List.all_eq_true.mpr fun d hd => (h1 d hd).2.1, List.all_eq_true.mpr fun d hd => decide_eq_true (h1 d hd).2.2, decide_eq_true h2]
  rfl
theorem keys_ok {ds : List D} (h1 : ∀ d ∈ ds, keyB d = true ∧ tupB d = true ∧ d.depth ≤ 8) (h2 : ds.length ≤ 63) : textsD (.list ds) = .ok ds := by
  unfold textsD
  simp only
  split
  · rfl
  · rw [if_pos (keysC_of h1 h2)]
theorem inS_ok {neg : Bool} {i : Nat} {fa : En → Res D} {ρ : En} {y : Str} {xs : List Str} (h : fa ρ = .ok (.str y)) (hi : ρ[i]? = some (some (stD (xs.map .str)))) : eInS neg i fa ρ = .ok (neg != decide (y ∈ xs)) := by
  unfold eInS setI
  rw [h, hi]
  show (if (xs.map PyData.str).all strB then Res.ok (neg != (xs.map PyData.str).any fun z => PyData.eqv z (.str y)) else .bad) = _
  rw [if_pos (all_str xs), any_str]
theorem inK_ok {neg : Bool} {i : Nat} {fa : En → Res D} {ρ : En} {xs ds : List D} (h : fa ρ = .ok (.tuple xs)) (hi : ρ[i]? = some (some (stD ds))) (hk : keysB xs = true) (hd : (PyData.tuple xs).depth ≤ 8) (h1 : ∀ d ∈ ds, keyB d = true ∧ tupB d = true ∧ d.depth ≤ 8) :
    eInS neg i fa ρ = .ok (neg != ds.any fun z => decide (nk z = nk (.tuple xs))) := by
  unfold eInS setI
  rw [h, hi]
  show (if (keysB xs && decide ((PyData.tuple xs).depth ≤ 8) && ds.all tupB) = true then Res.ok (neg != ds.any fun z => decide (nk z = nk (.tuple xs))) else .bad) = _
  rw [if_pos]
  rw [hk, decide_eq_true hd, List.all_eq_true.mpr fun d hd => (h1 d hd).2.1]
  rfl
theorem any_nk {x : D} {ds : List D} (hx : keyB x = true) (h1 : ∀ d ∈ ds, keyB d = true) : ((ds.any fun z => decide (nk z = nk x)) = true) ↔ x ∈ ds := by
  rw [List.any_eq_true]
  constructor
  · rintro ⟨z, hz, e⟩
    rw [← nk_inj z x (h1 z hz) hx (of_decide_eq_true e)]
    exact hz
  · intro h
    exact ⟨x, h, by simp⟩
theorem run_pSt {ds : List D} : purS (.own (.set ds)) = some (stD ds) := rfl
theorem run_fSt {ds : List D} : frzS (.own (.set ds)) = some (stD ds) := rfl
end
end Pyr

set_option Elab.async false
set_option autoImplicit false
set_option linter.all false
set_option maxRecDepth 100000
set_option maxHeartbeats 2000000
/-! the law's own call, at its caller: no guard stands -/
namespace Pyr
open PySem PySem.Spec PyProof.Rows L2 Evl

structure FnTop (P : Program) (w : World) (K : PySem.W.Frag) (mg : Str → Option Value) (base : Heap) (f : Addr) (fd : FuncData) (ps : List Str) (sp : Sp) : Prop where
  run : ∀ (s : Shared) (H : Hp) (us : List Value) (vs : List V) (Q : VK) (E : XK), Env0 P w K mg base callerA [] s H → BindsTo s fd ⟨us, []⟩ (ps.zip us) → Vals vs us → sp vs H Q E → codeAny (model P w) callerA (.call (.ref f) ⟨us, []⟩) (CR (L2.CX P w) [] P w H s Q E) s
section
variable {TS : TabList} {P : Program} {w : World} {K : PySem.W.Frag} {mg : Str → Option Value} {base : Heap} {qual : Str} {st : Stmt} {f : Addr} {N ps : List Str} {F : Frm → Res Fl} {k : Nat}
theorem fn_top {kV doc pm cdv ct oc : Value} {an od : Option Addr} {osl : Array (Option Value)} (hr : Room (k + 1) callerA)
    (lk : K.lookup f = some ⟨oc, od, .func (PySem.W.fnOf qual qual (defArgs st) (defBody st) (defScope st) .none kV doc pm an cdv ct), osl⟩) (hcd : PySem.W.codeIn K cdv qual = true) (S : FnScope N ps (defScope st))
    (body : ∀ (s : Shared) (H : Hp) (E : XK), Room k (callerA.deeper (envOfC qual (defScope st) s.heap.objs.size f cdv)) → DSs TS (cxOf (L2.CX P w) P w K mg base N qual (defScope st) f cdv callerA [] s H E) (defBody st) F) :
    FnTop P w K mg base f (PySem.W.fnOf qual qual (defArgs st) (defBody st) (defScope st) .none kV doc pm an cdv ct) ps (spD TS K mg (defM ps.length N.length F)) := by
  refine ⟨fun s H us vs Q E e0 hb rv sp => ?_⟩
  obtain ⟨G, ds, rs, ok, post⟩ := sp
  unfold defM at post
  split at post
  case isFalse => exact post.elim
  rename_i hlen
  have hps : vs.length = ps.length := by rw [rs.len, hlen]
  have inK : K.In s.heap := e0.mod.kin.keeps fun b o e => (e0.bs b o e).1
  have noLim : s.heap.NoLimit := e0.mod.nolimit.keeps fun b o e => (e0.bs b o e).1
  refine codeAny_call_function hr.depth (inK _ _ lk) rfl S.co S.gen rfl (PySem.W.codeRec_of inK hcd) (hb _ _ _ _ (wpAny_newFunctionEnv_cells S.kind (fun y hy => ?_) fun env he s1 x => ?_))
  · exact (S.par y.1 (List.of_mem_zip hy).1).imp id fun q => ⟨q, PySem.W.cellsFrom_some _ _ _ (.inl q)⟩
  · subst he
    refine ⟨noLim.keeps x.toInCall.keep, codeAny_func ?_⟩
    have I := inv_start (CX := L2.CX P w) (qual := qual) (f := f) (cd := cdv) (E := E) S hr.hd e0 hps rv x
    have hbody := body s H E (hr.deeper _) (fun cls d _ H => E cls d H) (frm0 N.length ds) (L2.start N vs) G H G H (fun _ => []) { nx := fun _ H' => Q .non H', rt := Q } (takes_of rfl rfl rfl rfl) (SI.start ok rs) (by
      cases hf : F (frm0 N.length ds) with
      | ok fl =>
        rw [hf] at post
        cases fl with
        | next ρ => exact fun σ' G' H' fp' _ s' => post .non G' H' s'.gr .non
        | ret rv => cases rv <;> exact post
        | brk ρ => exact post.elim
        | cont ρ => exact post.elim
      | exc c fs =>
        rw [hf] at post
        exact fun C d _ G' H' m g r => post C d G' H' m g r
      | bad =>
        rw [hf] at post
        exact post.elim)
    refine wpAny_mono ((pss_wp _ _).run [] s1 (L2.start N vs) H _ I hbody) (fun fl s' hs => ?_) fun e s' hs => hs
    cases fl with
    | ret u =>
      obtain ⟨v, σ', H', J, r, q⟩ := hs
      exact ⟨v, H', J.os, J.bare, J.base, J.hok, r, q⟩
    | next =>
      obtain ⟨σ', H', J, q⟩ := hs
      exact ⟨V.non, H', J.os, J.bare, J.base, J.hok, rfl, q⟩
    | brk => exact hs.choose_spec.choose_spec.2.elim
    | cont => exact hs.choose_spec.choose_spec.2.elim
end
/-- what is tracked where the law begins: the tables; the script, where the head does not know it -/
def H0 (K : PySem.W.Frag) (T : List Addr) (a : Addr) (ob : Obj) (ns : List Int) : Hp := fun b => if b ∈ T then some (.tbl #[]) else if b = a ∧ K.lookup a = none then some (.frz ob (.lst (ns.map V.int))) else none
section
variable {K : PySem.W.Frag} {T : List Addr} {a : Addr} {ob : Obj} {ns : List Int}
theorem H0_tab {b : Addr} (h : b ∈ T) : H0 K T a ob ns b = some (.tbl #[]) := if_pos h
theorem H0_cases (b : Addr) : (b ∈ T ∧ H0 K T a ob ns b = some (.tbl #[])) ∨ (b ∉ T ∧ b = a ∧ K.lookup a = none ∧ H0 K T a ob ns b = some (.frz ob (.lst (ns.map V.int)))) ∨ (b ∉ T ∧ H0 K T a ob ns b = none) := by
  by_cases h : b ∈ T
  · exact .inl ⟨h, if_pos h⟩
  · by_cases h2 : b = a ∧ K.lookup a = none
    · exact .inr (.inl ⟨h, h2.1, h2.2, (if_neg h).trans (if_pos h2)⟩)
    · exact .inr (.inr ⟨h, (if_neg h).trans (if_neg h2)⟩)
end
/-- the law's call at its caller -/
theorem call_top {P : Program} {w : World} {K : PySem.W.Frag} {mg mb : Str → Option Value} {fa a : Addr} {cs : List (Addr × Addr)} {fd : FuncData} {x : Str} {sp : Sp} {s₁ : Shared} {vs : List Value} {ns : List Int}
    (KX : K.In s₁.heap) (hns : s₁.heap.Ns mainGlobals mg) (hb : s₁.heap.Ns builtinsNs mb) (hbb : ∀ x : Str, x ≠ "__name__" → mb x = bootBuiltins x) (hlim : s₁.heap.NoLimit) (hg : s₁.gens = #[])
    (hT : ∀ p ∈ cs, PySem.W.CodeHd s₁.heap p.1 p.2 ∧ s₁.heap.get? p.2 = some (PySem.W.tabObj #[])) (nT : ∀ p ∈ cs, K.lookup p.2 = none)
    (hbm : ∃ (bm : Addr) (ob : Obj), mg "__builtins__" = some (.ref bm) ∧ bm ≠ builtinsNs ∧ s₁.heap.get? bm = some ob ∧ ob.cls = .type "module" ∧ ob.dict = some builtinsNs ∧ ob.data = .plain)
    (ha : s₁.heap.get? a = some { cls := .type "list", data := .seq vs.toArray }) (hi : IntsAre vs ns) (hl : ns.length ≤ sizeLine)
    (F : ∀ base : Heap, K.In base → base.Ns mainGlobals mg → (∀ p ∈ cs, GxR.TabB base mg p.1 p.2) → FnTop P w K mg base fa fd [x] sp) (hbind : ∀ (s : Shared) (u : Value), BindsTo s fd ⟨[u], []⟩ [(x, u)])
    (hsp : ∀ H : Hp, (∀ p ∈ cs, H p.2 = some (.tbl #[])) → SqL K H a (ns.map V.int) → sp [.ref a] H (fun v _ => v = .bl true) fun _ _ _ => False) :
    codeAny (model P w) callerA (.call (.ref fa) ⟨[.ref a], []⟩) (fun r s' => r = .ok (.ret (.bool true)) ∧ OldK s₁.heap s'.heap ∧ s'.os = s₁.os ∧ AllBare s'.gens) s₁ := by
  generalize hob : ({ cls := .type "list", data := .seq vs.toArray } : Obj) = ob at ha
  have tabAt : ∀ b ∈ cs.map (·.2), s₁.heap.get? b = some (PySem.W.tabObj #[]) := fun b h => by
    obtain ⟨p, hp, rfl⟩ := List.mem_map.mp h
    exact (hT p hp).2
  have aOut : a ∉ cs.map (·.2) := fun z => by
    have q := tabAt a z
    rw [ha, ← hob] at q
    cases congrArg Obj.data (Option.some.inj q)
  generalize hH : H0 K (cs.map (·.2)) a ob ns = H
  have cas := H0_cases (K := K) (T := cs.map (·.2)) (a := a) (ob := ob) (ns := ns)
  simp only [hH] at cas
  have tabs : ∀ p ∈ cs, H p.2 = some (.tbl #[]) := fun p hp => hH ▸ H0_tab (List.mem_map.mpr ⟨p, hp, rfl⟩)
  -- an object that is neither a sequence nor an empty table is not tracked
  have off : ∀ {b : Addr} {o : Obj}, s₁.heap.get? b = some o → (∀ us n, o.data ≠ .seq us n) → o.data ≠ .fields #[] → H b = none := fun {b o} e n1 n2 => by
    rcases cas b with ⟨h, _⟩ | ⟨_, h, _⟩ | ⟨_, h⟩
    · rw [tabAt b h] at e
      exact (n2 (by rw [← Option.some.inj e])).elim
    · rw [h, ha] at e
      exact (n1 vs.toArray 0 (by rw [← Option.some.inj e, ← hob])).elim
    · exact h
  have under : ∀ {b : Addr} {m : Str → Option Value}, s₁.heap.Ns b m → (hidT s₁.heap H).Ns b m := fun {b m} ⟨o, es, ep, e, d, r⟩ =>
    ⟨o, es, ep, hidT_get e (off e (fun us n z => by rw [d] at z; cases z) fun z => by rw [d] at z; cases z), d, r⟩
  have kin : K.In (hidT s₁.heap H) := fun b o e => hidT_get (KX b o e) (by
    rcases cas b with ⟨h, _⟩ | ⟨_, h, n, _⟩ | ⟨_, h⟩
    · obtain ⟨p, hp, rfl⟩ := List.mem_map.mp h
      rw [nT p hp] at e
      cases e
    · rw [h, n] at e
      cases e
    · exact h)
  have md : L2.Mod K mg (hidT s₁.heap H) := ⟨kin, under hns, ⟨mb, under hb, hbb⟩, let ⟨mc, q1, q2⟩ := hlim; ⟨mc, under q1, q2⟩⟩
  have tb : ∀ p ∈ cs, GxR.TabB (hidT s₁.heap H) mg p.1 p.2 := fun p hp => by
    obtain ⟨hC, hP⟩ := hT p hp
    have ng : mainGlobals ≠ p.2 := fun z => by
      obtain ⟨o, es, ep, e, d, _⟩ := hns
      rw [z, hP] at e
      rw [← Option.some.inj e] at d
      cases d
    obtain ⟨o, us, file, tf, flags, tg, inF, text, tt, e1, r1, r2, r3, rest⟩ := hC
    have dat : ∀ {z : Data}, o.data = z → z = .fields us := fun z => by rw [← z, r2]
    refine ⟨⟨o, us, file, tf, flags, tg, inF, text, tt, hidT_get e1 (off e1 (fun us' n z => by cases dat z) fun z => ?_), r1, r2, r3, rest⟩, ?_, ng⟩
    · cases dat z
      simp at r3
    · obtain ⟨bm, oc, b1, b2, b3, b4, b5, b6⟩ := hbm
      refine ⟨bm, oc, b1, b2, fun q => ?_, fun q => ?_, hidT_get b3 (off b3 (fun us' n z => by rw [b6] at z; cases z) fun z => by rw [b6] at z; cases z), b4, b5, b6⟩
      · obtain ⟨o', es, ep, e, d, _⟩ := hns
        rw [← q, b3] at e
        rw [← Option.some.inj e, b6] at d
        cases d
      · rw [q, hP] at b3
        rw [← Option.some.inj b3] at b6
        cases b6
  have hS : SqL K H a (ns.map V.int) := by
    rcases cas a with ⟨h, _⟩ | ⟨_, _, _, h⟩ | ⟨_, h⟩
    · exact absurd h aOut
    · exact .inl (.inr ⟨ob, h⟩)
    · cases hk : K.lookup a with
      | none =>
        rw [← hH] at h
        have : H0 K (cs.map (·.2)) a ob ns a = some (.frz ob (.lst (ns.map V.int))) := (if_neg aOut).trans (if_pos ⟨rfl, hk⟩)
        rw [this] at h
        cases h
      | some o =>
        have e := KX a o hk
        rw [ha] at e
        have e := Option.some.inj e
        subst e
        subst hob
        exact .inr ⟨_, vs.toArray, _, hk, rfl, rfl, rfl, by rw [List.size_toArray, hi.length]; exact hl, by simpa using vals_ints hi⟩
  have hok : HOk P w H s₁.heap := fun b u e => by
    rcases cas b with ⟨h, q⟩ | ⟨_, h, _, q⟩ | ⟨_, q⟩
    · rw [q] at e
      cases e
      exact tabAt b h
    · rw [q] at e
      cases e
      subst h
      subst hob
      exact ⟨ha, by rw [List.length_map]; exact hl, vs, 0, vals_ints hi, ha⟩
    · rw [q] at e
      cases e
  have e0 : Env0 P w K mg (hidT s₁.heap H) callerA [] s₁ H := ⟨rfl, md, fun b o e => of_hidT e, Nat.le_of_eq (hidT_size _ _), trivial, fun b hb => (List.not_mem_nil (show b ∈ ([] : List Addr) from hb)).elim, hok, .of_eq hg⟩
  refine codeAny_mono ((F _ kin (under hns) tb).run s₁ H [.ref a] [.ref a] _ _ e0 (hbind s₁ (.ref a)) (.cons rfl .nil) (hsp H tabs hS)) fun r s' h => ?_
  cases r with
  | error e =>
    obtain ⟨_, _, _, _, _, _, _, _, _, _, _, _, z⟩ := h
    exact z.elim
  | ok fl =>
    cases fl with
    | ret u =>
      obtain ⟨v, H', os, bare, un, hok', rv, q⟩ := h
      subst q
      obtain rfl : u = Value.bool true := rv
      have tabIs : ∀ b ∈ cs.map (·.2), ∃ more : Array Value, s'.heap.get? b = some (PySem.W.tabObj more) := fun b hb => by
        obtain ⟨p, hp, rfl⟩ := List.mem_map.mp hb
        obtain ⟨more, z⟩ := un.tbls p.2 #[] (tabs p hp)
        exact ⟨_, hok' p.2 _ z⟩
      have same : ∀ b o, b ∉ cs.map (·.2) → s₁.heap.get? b = some o → s'.heap.get? b = some o := fun b o nb e => by
        rcases cas b with ⟨h, _⟩ | ⟨_, h, _, z⟩ | ⟨_, z⟩
        · exact absurd h nb
        · have z1 := (hok b _ z).1
          have z2 := (hok' b _ (un.frzs b ob _ z)).1
          rw [z1] at e
          rw [z2, e]
        · exact un.keep b o e z (fun y => nomatch y) (fun y => nomatch y)
      refine ⟨rfl, ⟨fun b o e => ?_, fun b o e => ?_⟩, os, bare⟩
      · by_cases hb : b ∈ cs.map (·.2)
        · obtain ⟨more, hm⟩ := tabIs b hb
          obtain ⟨p, hp, rfl⟩ := List.mem_map.mp hb
          rw [(hT p hp).2] at e
          have e := Option.some.inj e
          subst e
          exact .inr (.inl ⟨((hT p hp).1.tab (hT p hp).2).isCodeTable, rfl, #[], more, rfl, by rw [Array.empty_append]; exact hm⟩)
        · exact .inl (same b o hb e)
      · by_cases hb : b ∈ cs.map (·.2)
        · obtain ⟨more, hm⟩ := tabIs b hb
          exact ⟨_, hm⟩
        · exact ⟨o, same b o hb e⟩
    | _ => exact h.elim
theorem law_endG {l : PySem.W.OpenLaw} {q : Program} {loose : List Str} {XP : (Str → Option Value) → Heap → Prop} {YP : World → Heap → Prop} {d : DefRec} {K : Params → PySem.W.Frag} {x : Str}
    (hn : l.most = some 63) (hdf : d.params.defaults = []) (hY : ∀ (w : World) (h : Heap), YP w h → (K w.params).In h)
    (F : ∀ (w : World) (mg : Str → Option Value) (fa : Addr) (h : Heap), (K w.params).In h → h.Ns mainGlobals mg → mg d.name = some (.ref fa) →
      (∀ (y : Str) (dd : DefRec) (c P : Addr), (recsOf q).find? (fun e => e.name == y) = some dd → PySem.W.tabIn (K w.params) y = some (c, P) → PySem.W.CodeHd h c P ∧ h.get? P = some (PySem.W.tabObj #[])) →
      ∃ (fd : FuncData) (cs : List (Addr × Addr)), (∀ p ∈ cs, PySem.W.CodeHd h p.1 p.2 ∧ h.get? p.2 = some (PySem.W.tabObj #[])) ∧ (∀ p ∈ cs, (K w.params).lookup p.2 = none) ∧ (∀ (s : Shared) (u : Value), BindsTo s fd ⟨[u], []⟩ [(x, u)]) ∧
        ∀ base : Heap, (K w.params).In base → base.Ns mainGlobals mg → (∀ p ∈ cs, GxR.TabB base mg p.1 p.2) → FnTop l.prog w (K w.params) mg base fa fd [x] (spLawT (K w.params) (cs.map (·.2)))) :
    PySem.W.WalkO q loose XP YP l.row.toRowW d [] (fun f vs => PySem.call f vs) := by
  refine Att.attach_callB (n := 63) hn hdf fun w s₀ s₁ mg mb fa o pm cd doc a vs ns G Y ho hd hcd hmg hobj hints hlen hbits hg => ?_
  have KX := hY w _ Y
  obtain ⟨fd, cs, hT, nT, hb, hF⟩ := F w mg fa _ KX G.T.g hmg fun y dd c P h1 h2 => PySem.W.tab_of G.T KX h1 h2
  exact call_top KX G.T.g G.T.b G.T.builtins G.T.nolimit hg hT nT G.T.bmain hobj hints (Nat.le_trans hlen (by decide)) hF hb
    fun H hH hS => ⟨a, ns, rfl, hS, hlen, fun P hP => by
      obtain ⟨p, hp, rfl⟩ := List.mem_map.mp hP
      exact hH p hp, fun _ => rfl⟩
theorem top_imp {TS : TabList} {P : Program} {w : World} {K : PySem.W.Frag} {mg : Str → Option Value} {base : Heap} {f : Addr} {fd : FuncData} {ps : List Str} {m : List D → Res RV} (F : FnTop P w K mg base f fd ps (spD TS K mg m))
    (hm : ∀ ns : List Int, ns.length ≤ 63 → m [scriptD ns] = .ok (.val (.bool true))) : FnTop P w K mg base f fd ps (spLawT K TS.l) := by
  refine ⟨fun s H us vs Q E e0 hb rv sp => F.run s H us vs Q E e0 hb rv ?_⟩
  obtain ⟨a, ns, rfl, hs, hl, ht, q⟩ := sp
  refine ⟨noTb H, [scriptD ns], .cons (.lst (sql_noTb hs) (rps_ints ns)) .nil, ⟨noTb_ex H, fun P hP => ⟨#[], ht P hP, trivial⟩, fun _ _ h => (noTb_some.mp h).2⟩, ?_⟩
  rw [hm ns hl]
  intro v G' H' _ r
  cases r
  exact q H'
theorem law_finG {P : Program} {w : World} {K : PySem.W.Frag} {mg : Str → Option Value} {h : Heap} {st : Stmt} {fa : Addr} {x : Str} {k : Nat} {cs : List (Addr × Addr)} {N : List Str} {F : Frm → Res Fl} (X : K.In h) (G : h.Ns mainGlobals mg) (hfa : mg "law" = some (.ref fa)) (d : DefIn K "law" st) (b : BindOk "law" st [x])
    (hT : ∀ p ∈ cs, PySem.W.CodeHd h p.1 p.2 ∧ h.get? p.2 = some (PySem.W.tabObj #[])) (nT : ∀ p ∈ cs, K.lookup p.2 = none) (S : FnScope N [x] (defScope st)) (hr : Room (k + 1) callerA)
    (body : ∀ (base : Heap), (∀ p ∈ cs, GxR.TabB base mg p.1 p.2) → ∀ (f : Addr) (cdv : Value) (s : Shared) (H : Hp) (E : XK), Room k (callerA.deeper (envOfC "law" (defScope st) s.heap.objs.size f cdv)) → DSs ⟨cs.map (·.2), P, w⟩ (cxOf (L2.CX P w) P w K mg base N "law" (defScope st) f cdv callerA [] s H E) (defBody st) F)
    (hm : ∀ ns : List Int, ns.length ≤ 63 → defM 1 N.length F [scriptD ns] = .ok (.val (.bool true))) :
    ∃ (fd : FuncData) (cs : List (Addr × Addr)), (∀ p ∈ cs, PySem.W.CodeHd h p.1 p.2 ∧ h.get? p.2 = some (PySem.W.tabObj #[])) ∧ (∀ p ∈ cs, K.lookup p.2 = none) ∧ (∀ (s : Shared) (u : Value), BindsTo s fd ⟨[u], []⟩ [(x, u)]) ∧
        ∀ base : Heap, K.In base → base.Ns mainGlobals mg → (∀ p ∈ cs, GxR.TabB base mg p.1 p.2) → FnTop P w K mg base fa fd [x] (spLawT K (cs.map (·.2))) := by
  obtain ⟨f, oc, od, an, sl, kV, doc, pm, cd, ct, h1, h2, h3, h4⟩ := d
  have e := hfa.symm.trans (PySem.W.mg_of X G h1)
  cases e
  exact ⟨_, cs, hT, nT, fun s u => .of_eq (b kV doc pm an cd ct [u] rfl), fun base _ _ ht => top_imp (fn_top hr h2 h3 S fun s H E hr => body base ht _ _ s H E hr) hm⟩
theorem law_finGC {P : Program} {w : World} {K : PySem.W.Frag} {mg : Str → Option Value} {h : Heap} {st : Stmt} {fa : Addr} {x : Str} {k : Nat} {cs : List (Addr × Addr)} {N : List Str} {F : Frm → Res Fl} {cdv : Value} (X : K.In h) (G : h.Ns mainGlobals mg) (hfa : mg "law" = some (.ref fa)) (d : DefInC K "law" st cdv) (b : BindOk "law" st [x])
    (hT : ∀ p ∈ cs, PySem.W.CodeHd h p.1 p.2 ∧ h.get? p.2 = some (PySem.W.tabObj #[])) (nT : ∀ p ∈ cs, K.lookup p.2 = none) (S : FnScope N [x] (defScope st)) (hr : Room (k + 1) callerA)
    (body : ∀ (base : Heap), (∀ p ∈ cs, GxR.TabB base mg p.1 p.2) → ∀ (f : Addr) (s : Shared) (H : Hp) (E : XK), Room k (callerA.deeper (envOfC "law" (defScope st) s.heap.objs.size f cdv)) → DSs ⟨cs.map (·.2), P, w⟩ (cxOf (L2.CX P w) P w K mg base N "law" (defScope st) f cdv callerA [] s H E) (defBody st) F)
    (hm : ∀ ns : List Int, ns.length ≤ 63 → defM 1 N.length F [scriptD ns] = .ok (.val (.bool true))) :
    ∃ (fd : FuncData) (cs : List (Addr × Addr)), (∀ p ∈ cs, PySem.W.CodeHd h p.1 p.2 ∧ h.get? p.2 = some (PySem.W.tabObj #[])) ∧ (∀ p ∈ cs, K.lookup p.2 = none) ∧ (∀ (s : Shared) (u : Value), BindsTo s fd ⟨[u], []⟩ [(x, u)]) ∧
        ∀ base : Heap, K.In base → base.Ns mainGlobals mg → (∀ p ∈ cs, GxR.TabB base mg p.1 p.2) → FnTop P w K mg base fa fd [x] (spLawT K (cs.map (·.2))) := by
  obtain ⟨f, oc, od, an, sl, kV, doc, pm, ct, h1, h2, h3, h4⟩ := d
  have e := hfa.symm.trans (PySem.W.mg_of X G h1)
  cases e
  exact ⟨_, cs, hT, nT, fun s u => .of_eq (b kV doc pm an cdv ct [u] rfl), fun base _ _ ht => top_imp (fn_top hr h2 h3 S fun s H E hr => body base ht _ s H E hr) hm⟩
/-! ### repr, sum -/
def seqB : D → Bool
  | .list _ => true
  | .tuple _ => true
  | _ => false
def reprD : D → Res D := fun d => if d.showable && decide (d.shown.length ≤ 1000000) && flatD d && decide (d.depth ≤ 12) && seqB d then .ok (.str d.shown) else .bad
def sumI : List D → Option Int
  | [] => some 0
  | .int i :: ds => (sumI ds).map (i + ·)
  | _ => none
def sumD : D → Res D
  | .list ds => match sumI ds with
    | some n => .ok (.int n)
    | none => .bad
  | _ => .bad
section
variable {TS : TabList} {X : Cx}
theorem bt_repr : bootBuiltins "repr" = some (.builtin "repr") := by decide +kernel
theorem bt_sum : bootBuiltins "sum" = some (.builtin "sum") := by decide +kernel
mutual
theorem flat_hd : ∀ d : D, flatD d = true → d.hasDict = false
  | .none, _ => rfl
  | .bool _, _ => rfl
  | .int _, _ => rfl
  | .str _, _ => rfl
  | .list ds, h => flats_hd ds (by simpa [flatD] using h)
  | .tuple ds, h => flats_hd ds (by simpa [flatD] using h)
  | .dict _, h => by simp [flatD] at h
theorem flats_hd : ∀ ds : List D, flatsD ds = true → PyData.hasDictAll ds = false
  | [], _ => rfl
  | d :: ds, h => by
    rw [flatsD, Bool.and_eq_true] at h
    rw [PyData.hasDictAll, flat_hd d h.1, flats_hd ds h.2]
    rfl
end
theorem sum_of {K : PySem.W.Frag} {G : Hp} : ∀ {vs : List V} {ds : List D} {n : Int}, Rps K G vs ds → sumI ds = some n → ∃ ns : List Int, vs = ns.map V.int ∧ ns.sum = n
  | _, _, _, .nil, h => ⟨[], rfl, Option.some.inj h⟩
  | _, _, _, .cons (d := d) r rs, h => by
    cases r <;> try cases h
    rename_i i
    obtain ⟨m, h1, rfl⟩ := Option.map_eq_some_iff.mp (show (sumI _).map (i + ·) = some _ from h)
    obtain ⟨ns, rfl, rfl⟩ := sum_of rs h1
    exact ⟨i :: ns, rfl, List.sum_cons⟩
theorem cd_sum (C : CtE X) : CallD TS X (.builtin "sum") (oneD sumD) := by
  refine ⟨?_⟩
  intro W σ vs ds G H Q ok rs p
  unfold oneD at p
  split at p
  · obtain ⟨v, rfl, r⟩ := rs.one_inv
    unfold sumD at p
    split at p
    · obtain ⟨q, xs, rfl, hq, r⟩ := r.list_inv
      split at p
      · rename_i n hn
        obtain ⟨ns, rfl, rfl⟩ := sum_of r hn
        exact wpC_of (cr_sum C.calm) ⟨q, ns, rfl, ex_l ok.le hq, fin1 ok p (.int _)⟩
      · exact p.elim
    · exact p.elim
  · exact p.elim
theorem cd_repr (C : CtE X) (hg : X.A.guards = some []) : CallD TS X (.builtin "repr") (oneD reprD) := by
  refine ⟨?_⟩
  intro W σ vs ds G H Q ok rs p
  unfold oneD at p
  split at p
  · obtain ⟨v, rfl, r⟩ := rs.one_inv
    rename_i d
    unfold reprD at p
    split at p
    · rename_i hc
      simp only [Bool.and_eq_true, decide_eq_true_eq] at hc
      obtain ⟨⟨⟨⟨h1, h2⟩, h3⟩, h4⟩, h5⟩ := hc
      intro pins s σ us I rv
      obtain ⟨u, rfl, ru⟩ := vals1 rv
      obtain ⟨as, rd⟩ := Dp.reads I d v u ((r.mono ok.le).dp h3) ru
      obtain ⟨b, rfl⟩ : ∃ b, u = .ref b := by
        cases r <;> first | exact ⟨_, ru⟩ | cases h5
      refine repr_of_reads' rd h1 (fun z => (Bool.false_ne_true ((flat_hd d h3).symm.trans z)).elim) hg (by have := C.un; omega) (fun _ _ e => e) (fun h' t tk hk => ?_) (Nat.le_trans h2 (by decide))
      exact ⟨.str _, H, I.kept hk, ⟨_, rfl⟩, fin1 ok p (.str _)⟩
    · exact p.elim
  · exact p.elim
end
end Pyr

set_option Elab.async false
set_option autoImplicit false
set_option linter.all false
set_option maxRecDepth 100000
set_option maxHeartbeats 2000000
/-! forgetting slots; loops as folds -/
namespace Pyr
open PySem PySem.Spec PyProof.Rows L2 Evl

/-- a thing as it is, which nobody unfolds -/
theorem hid_ex {α : Type} (x : α) : ∃ y, y = x := ⟨x, rfl⟩
noncomputable def hid {α : Type} (x : α) : α := (hid_ex x).choose
theorem hid_eq {α : Type} (x : α) : hid x = x := (hid_ex x).choose_spec
theorem Known.cast {TS : TabList} {P : Program} {w : World} {K : PySem.W.Frag} {mg : Str → Option Value} {base : Heap} {k : Nat} {x : Str} {ps : List Str} {m m' : List D → Res RV} (e : m = m') (h : Known TS P w K mg base k x ps m') : Known TS P w K mg base k x ps m := e ▸ h
def killF : List Nat → Frm → Frm
  | [], ρ => ρ
  | i :: is, ρ => killF is (ρ.set i .emp)
def sKill (is : List Nat) (F : Frm → Res Fl) : Frm → Res Fl := fun ρ => F (killF is ρ)
section
variable {TS : TabList} {K : PySem.W.Frag} {G_0 H_0 G H : Hp} {fp : Nat → List Addr}
theorem SI.kill1 {ρ : Frm} {σ : L2.St} (i : Nat) (s : SI TS K G_0 H_0 ρ σ G H fp) : SI TS K G_0 H_0 (ρ.set i .emp) σ G H fp := by
  have back : ∀ {j : Nat} {x : Sl}, x ≠ .emp → (ρ.set i .emp)[j]? = some x → ρ[j]? = some x := fun {j x} hx h => by
    rcases set_at h with ⟨_, e, _⟩ | ⟨_, h⟩
    · exact absurd e.symm hx
    · exact h
  exact ⟨s.gr, by rw [List.length_set]; exact s.len, fun j d h => s.val j d (back (by simp) h), fun j o h => s.own j o (back (by simp) h), fun j l o u h1 h2 => s.apart j l o u (back (by simp) h1) (back (by simp) h2), fun j o h => s.free j o (back (by simp) h)⟩
theorem SI.kill {σ : L2.St} : ∀ (is : List Nat) {ρ : Frm}, SI TS K G_0 H_0 ρ σ G H fp → SI TS K G_0 H_0 (killF is ρ) σ G H fp
  | [], _, s => s
  | i :: is, _, s => SI.kill is (s.kill1 i)
end
section
variable {TS : TabList} {X : Cx} {rest : List Stmt} {F : Frm → Res Fl} {pos : Pos}
theorem dss_kill (is : List Nat) (h : DSs TS X rest F) : DSs TS X rest (sKill is F) := .mk fun W ρ σ G_0 H_0 G H fp D tk s p => h W _ σ G_0 H_0 G H fp D tk (s.kill is) p
theorem ds_breakK (is : List Nat) : DSt TS X (.Break pos) (fun ρ => .ok (.brk (killF is ρ))) := .mk fun W ρ σ G_0 H_0 G H fp D tk s p => wpSt_of ps_break (p σ G H fp (Ex.refl G) (s.kill is))
theorem ds_continueK (is : List Nat) : DSt TS X (.Continue pos) (fun ρ => .ok (.cont (killF is ρ))) := .mk fun W ρ σ G_0 H_0 G H fp D tk s p => wpSt_of ps_continue (p σ G H fp (Ex.refl G) (s.kill is))
end
theorem run_kill0 {ρ : Frm} : killF [] ρ = ρ := rfl
theorem run_killS {i : Nat} {is : List Nat} {ρ : Frm} : killF (i :: is) ρ = killF is (ρ.set i .emp) := rfl

/-! ### loops as folds -/
/-- a turn goes on: by its end or by continue -/
def Goes (F : Frm → Res Fl) (ρ ρ' : Frm) : Prop := F ρ = .ok (.next ρ') ∨ F ρ = .ok (.cont ρ')
theorem forF_go {t : Tg} {F : Frm → Res Fl} {d : D} {ds : List D} {ρ ρ1 ρ2 : Frm} (h : tgF t d ρ = .ok ρ1) (g : Goes F ρ1 ρ2) : forF t F (d :: ds) ρ = forF t F ds ρ2 := by
  show ((tgF t d ρ).bind fun ρ1 => (F ρ1).bind _) = _
  rw [h]
  show ((F ρ1).bind _) = _
  rcases g with g | g <;> rw [g] <;> rfl
/-- a loop over encoded items, its state encoded, an invariant kept -/
theorem forF_fold {S α : Type} {t : Tg} {F : Frm → Res Fl} (en : α → D) (fr : S → Frm) (step : S → α → S) (I : S → Prop) :
    ∀ (xs : List α) (s : S), I s → (∀ s x, x ∈ xs → I s → (∃ ρ1, tgF t (en x) (fr s) = .ok ρ1 ∧ Goes F ρ1 (fr (step s x))) ∧ I (step s x)) →
      forF t F (xs.map en) (fr s) = .ok (.next (fr (xs.foldl step s))) ∧ I (xs.foldl step s)
  | [], s, hi, _ => ⟨rfl, hi⟩
  | x :: xs, s, hi, h => by
    obtain ⟨⟨ρ1, h1, h2⟩, h3⟩ := h s x List.mem_cons_self hi
    obtain ⟨e, i⟩ := forF_fold en fr step I xs (step s x) h3 fun s y hy => h s y (List.mem_cons_of_mem _ hy)
    exact ⟨(forF_go h1 h2).trans e, i⟩
/-- the same with the turn's number told -/
theorem forF_num {S : Type} {t : Tg} {F : Frm → Res Fl} (fr : S → Frm) (step : S → Nat → S) (I : Nat → S → Prop) :
    ∀ (m lo : Nat) (s : S), I lo s → (∀ k s, lo ≤ k → k < lo + m → I k s → (∃ ρ1, tgF t (.int (k : Int)) (fr s) = .ok ρ1 ∧ Goes F ρ1 (fr (step s k))) ∧ I (k + 1) (step s k)) →
      forF t F (upto (lo : Int) m) (fr s) = .ok (.next (fr ((List.range' lo m).foldl step s))) ∧ I (lo + m) ((List.range' lo m).foldl step s)
  | 0, lo, s, hi, _ => ⟨rfl, hi⟩
  | m + 1, lo, s, hi, h => by
    obtain ⟨⟨ρ1, h1, h2⟩, h3⟩ := h lo s (Nat.le_refl _) (by omega) hi
    obtain ⟨e, i⟩ := forF_num fr step I m (lo + 1) (step s lo) h3 fun k s hk hk2 => h k s (by omega) (by omega)
    have i : I (lo + 1 + m) _ := i
    rw [show lo + 1 + m = lo + (m + 1) by omega] at i
    refine ⟨?_, i⟩
    show forF t F (.int (lo : Int) :: upto ((lo : Int) + 1) m) (fr s) = _
    rw [forF_go h1 h2]
    exact e
/-- a search: turns that change nothing, up to the first that returns -/
theorem forF_find {α : Type} {t : Tg} {F : Frm → Res Fl} {ρ : Frm} (en : α → D) (p : α → Bool) (r : α → RV) :
    ∀ (xs : List α), (∀ x ∈ xs, ∃ ρ1, tgF t (en x) ρ = .ok ρ1 ∧ (p x = true → F ρ1 = .ok (.ret (r x))) ∧ (p x = false → Goes F ρ1 ρ)) →
      forF t F (xs.map en) ρ = match xs.find? p with
        | some x => .ok (.ret (r x))
        | none => .ok (.next ρ)
  | [], _ => rfl
  | x :: xs, h => by
    obtain ⟨ρ1, h1, h2, h3⟩ := h x List.mem_cons_self
    rw [List.map_cons, List.find?_cons]
    cases hp : p x with
    | true => exact forF_ret h1 (h2 hp)
    | false =>
      rw [forF_go h1 (h3 hp)]
      exact forF_find en p r xs fun y hy => h y (List.mem_cons_of_mem _ hy)
end Pyr

set_option Elab.async false
set_option autoImplicit false
set_option linter.all false
set_option maxRecDepth 100000
set_option maxHeartbeats 2000000
/-! what laws are made of -/
namespace Pyr
open PySem PySem.Spec PyProof.Rows L2 Evl

/-! ### loops and comprehensions whose values are not told -/
theorem forF_exN {S : Type} {t : Tg} {F : Frm → Res Fl} (fr : S → Frm) (I : Nat → S → Prop) :
    ∀ (m lo : Nat) (s : S), I lo s → (∀ k s, lo ≤ k → k < lo + m → I k s → ∃ s' ρ1, tgF t (.int (k : Int)) (fr s) = .ok ρ1 ∧ Goes F ρ1 (fr s') ∧ I (k + 1) s') →
      ∃ s', forF t F (upto (lo : Int) m) (fr s) = .ok (.next (fr s')) ∧ I (lo + m) s'
  | 0, lo, s, hi, _ => ⟨s, rfl, hi⟩
  | m + 1, lo, s, hi, h => by
    obtain ⟨s1, ρ1, h1, h2, h3⟩ := h lo s (Nat.le_refl _) (by omega) hi
    obtain ⟨s2, e, i⟩ := forF_exN fr I m (lo + 1) s1 h3 fun k s hk hk2 => h k s (by omega) (by omega)
    rw [show lo + 1 + m = lo + (m + 1) by omega] at i
    refine ⟨s2, ?_, i⟩
    show forF t F (.int (lo : Int) :: upto ((lo : Int) + 1) m) (fr s) = _
    rw [forF_go h1 h2]
    exact e
theorem forF_exL {S : Type} {t : Tg} {F : Frm → Res Fl} (fr : S → Frm) (I : Nat → S → Prop) :
    ∀ (ds : List D) (lo : Nat) (s : S), I lo s → (∀ k s d, ds[k]? = some d → I (lo + k) s → ∃ s' ρ1, tgF t d (fr s) = .ok ρ1 ∧ Goes F ρ1 (fr s') ∧ I (lo + k + 1) s') →
      ∃ s', forF t F ds (fr s) = .ok (.next (fr s')) ∧ I (lo + ds.length) s'
  | [], lo, s, hi, _ => ⟨s, rfl, hi⟩
  | d :: ds, lo, s, hi, h => by
    obtain ⟨s1, ρ1, h1, h2, h3⟩ := h 0 s d rfl hi
    obtain ⟨s2, e, i⟩ := forF_exL fr I ds (lo + 1) s1 h3 fun k s d hd hk => by
      obtain ⟨s', q⟩ := h (k + 1) s d hd (by rw [show lo + (k + 1) = lo + 1 + k by omega]; exact hk)
      rw [show lo + (k + 1) + 1 = lo + 1 + k + 1 by omega] at q
      exact ⟨s', q⟩
    rw [show lo + 1 + ds.length = lo + (d :: ds).length by rw [List.length_cons]; omega] at i
    refine ⟨s2, ?_, i⟩
    rw [forF_go h1 h2]
    exact e
theorem compF_exP {t : Tg} {tt : En → Res Bool} {fe : En → Res D} {ρ : En} (P : D → D → Prop) :
    ∀ ds : List D, (∀ d ∈ ds, ∃ ρ1 y, tgE t d ρ = .ok ρ1 ∧ tt ρ1 = .ok true ∧ fe ρ1 = .ok y ∧ P d y) → ∃ ys, compF t tt fe ρ ds = .ok ys ∧ ys.length = ds.length ∧ ∀ y ∈ ys, ∃ d ∈ ds, P d y
  | [], _ => ⟨[], rfl, rfl, fun y h => nomatch h⟩
  | d :: ds, h => by
    obtain ⟨ρ1, y, h1, h2, h3, h4⟩ := h d List.mem_cons_self
    obtain ⟨ys, e, hl, hy⟩ := compF_exP P ds fun d hd => h d (List.mem_cons_of_mem _ hd)
    refine ⟨y :: ys, ?_, by rw [List.length_cons, List.length_cons, hl], fun z hz => ?_⟩
    · show (tgE t d ρ).bind _ = _
      rw [h1]
      show (noX (tt ρ1)).bind _ = _
      rw [h2]
      show (noX (fe ρ1)).bind _ = _
      rw [h3]
      show (compF t tt fe ρ ds).bind _ = _
      rw [e]
      rfl
    · rcases List.mem_cons.mp hz with rfl | hz
      · exact ⟨d, List.mem_cons_self, h4⟩
      · obtain ⟨d', a, b⟩ := hy z hz
        exact ⟨d', List.mem_cons_of_mem _ a, b⟩
theorem compF_en {α : Type} {t : Tg} {tt : En → Res Bool} {fe : En → Res D} {ρ : En} (e g : α → D) : ∀ xs : List α, (∀ x ∈ xs, ∃ ρ1, tgE t (e x) ρ = .ok ρ1 ∧ tt ρ1 = .ok true ∧ fe ρ1 = .ok (g x)) → compF t tt fe ρ (xs.map e) = .ok (xs.map g)
  | [], _ => rfl
  | x :: xs, h => by
    obtain ⟨ρ1, h1, h2, h3⟩ := h x List.mem_cons_self
    show (tgE t (e x) ρ).bind _ = _
    rw [h1]
    show (noX (tt ρ1)).bind _ = _
    rw [h2]
    show (noX (fe ρ1)).bind _ = _
    rw [h3]
    show (compF t tt fe ρ (xs.map e)).bind _ = _
    rw [compF_en e g xs fun y hy => h y (List.mem_cons_of_mem _ hy)]
    rfl
theorem compF_some {α : Type} {t : Tg} {tt : En → Res Bool} {fe : En → Res D} {ρ : En} (e g : α → D) (p : α → Bool) : ∀ xs : List α, (∀ x ∈ xs, ∃ ρ1, tgE t (e x) ρ = .ok ρ1 ∧ tt ρ1 = .ok (p x) ∧ (p x = true → fe ρ1 = .ok (g x))) → compF t tt fe ρ (xs.map e) = .ok ((xs.filter p).map g)
  | [], _ => rfl
  | x :: xs, h => by
    obtain ⟨ρ1, h1, h2, h3⟩ := h x List.mem_cons_self
    have ih := compF_some e g p xs fun y hy => h y (List.mem_cons_of_mem _ hy)
    show (tgE t (e x) ρ).bind _ = _
    rw [h1]
    show (noX (tt ρ1)).bind _ = _
    rw [h2, List.filter_cons]
    cases hp : p x with
    | true =>
      show (noX (fe ρ1)).bind _ = _
      rw [h3 hp]
      show (compF t tt fe ρ (xs.map e)).bind _ = _
      rw [ih]
      rfl
    | false => exact ih
theorem lComp_ok {own : List Nat} {t : Tg} {fi : En → Res (List D)} {tt : En → Res Bool} {fe : En → Res D} {ρ : En} {ds : List D} {r : Res (List D)} (h : fi ρ = .ok ds) (hl : ds.length ≤ 100000) (hc : compF t tt fe (wipeE ρ own) ds = r) : lComp own t fi tt fe ρ = r := by
  unfold lComp
  rw [h, bind_ok, okL_ok hl, hc]
theorem eJoin_ok {fa fb : En → Res D} {ρ : En} {a : Str} {x : D} {r : Res D} (ha : fa ρ = .ok (.str a)) (hb : fb ρ = .ok x) (h : joinD a x = r) : eJoin fa fb ρ = r := by
  unfold eJoin
  rw [ha]
  show (fb ρ).bind _ = _
  rw [hb]
  exact h
theorem mapL_ok {f : En → Res (List D)} {ρ : En} {ds : List D} (h : f ρ = .ok ds) : (f ρ).map PyData.list = .ok (.list ds) := by rw [h]; rfl
theorem retL_ok {f : En → Res (List D)} {ρ : Frm} {ds : List D} (h : f (purE ρ) = .ok ds) : sRetL f ρ = .ok (.ret (.own ds)) := by unfold sRetL; rw [evL_ok h]; rfl
theorem forN {t : Tg} {fi : En → Res (List D)} {F : Frm → Res Fl} {ρ : Frm} {r : Res Fl} (n : Nat) (hn : n ≤ 100000) (h : fi (frzE ρ) = r1D (.int (n : Int))) (e : forF t F (upto 0 n) ρ = r) : sForR t fi F ρ = r :=
  (forR_ok (h.trans (r1D_nat hn)) (upto_flat _ _)).trans e
theorem upto_map (n : Nat) : ∀ lo : Nat, upto (lo : Int) n = (List.range' lo n).map fun k => .int (k : Int) := by
  induction n with
  | zero => exact fun _ => rfl
  | succ n ih =>
    intro lo
    show PyData.int (lo : Int) :: upto ((lo : Int) + 1) n = _
    rw [show ((lo : Int) + 1) = ((lo + 1 : Nat) : Int) by omega, ih (lo + 1)]
    rfl

theorem run_flI {i : Int} : flat0 (.int i) = true := rfl
theorem run_flB {b : Bool} : flat0 (.bool b) = true := rfl
theorem run_flS {x : Str} : flat0 (.str x) = true := rfl
theorem run_flN : flat0 .none = true := rfl
theorem run_own {ds : List D} : ownD (.own ds) = .ok ds := rfl

/-! ### data that can be compared, laid, shown: fD n d, to depth n -/
mutual
def fD : Nat → D → Bool
  | _, .none => true
  | _, .bool _ => true
  | _, .int i => decide (i.natAbs < 2 ^ 64)
  | _, .str x => PyData.strOk x
  | 0, .list _ => false
  | n + 1, .list ds => fDs n ds
  | 0, .tuple _ => false
  | n + 1, .tuple ds => fDs n ds
  | _, .dict _ => false
def fDs : Nat → List D → Bool
  | _, [] => true
  | n, d :: ds => fD n d && fDs n ds
end
mutual
theorem fD_ok : ∀ (n : Nat) (d : D), fD n d = true → okD n d = true ∧ d.showable = true
  | _, .none, _ => ⟨rfl, rfl⟩
  | _, .bool _, _ => ⟨by simp [okD], rfl⟩
  | n, .int i, h => ⟨by simp [okD], by
    have h : i.natAbs < 2 ^ 64 := by simpa [fD] using h
    refine decide_eq_true ?_
    by_cases h0 : i.natAbs = 0
    · rw [h0]; decide
    · have := (Nat.log2_lt h0).mpr h
      omega⟩
  | n, .str x, h => ⟨by simpa [okD, fD] using h, rfl⟩
  | 0, .list _, h => by simp [fD] at h
  | n + 1, .list ds, h => by simpa [okD, PyData.showable] using fDs_ok n ds (by simpa [fD] using h)
  | 0, .tuple _, h => by simp [fD] at h
  | n + 1, .tuple ds, h => by simpa [okD, PyData.showable] using fDs_ok n ds (by simpa [fD] using h)
  | n, .dict _, h => by simp [fD] at h
theorem fDs_ok : ∀ (n : Nat) (ds : List D), fDs n ds = true → okDs n ds = true ∧ PyData.showableAll ds = true
  | _, [], _ => ⟨rfl, rfl⟩
  | n, d :: ds, h => by
    rw [fDs, Bool.and_eq_true] at h
    obtain ⟨a, b⟩ := fD_ok n d h.1
    obtain ⟨c, e⟩ := fDs_ok n ds h.2
    exact ⟨by rw [okDs, a, c]; rfl, by rw [PyData.showableAll, b, e]; rfl⟩
end
theorem fDs_all {n : Nat} : ∀ {ds : List D}, (∀ d ∈ ds, fD n d = true) → fDs n ds = true
  | [], _ => rfl
  | d :: ds, h => by
    rw [fDs, h d List.mem_cons_self, fDs_all fun e he => h e (List.mem_cons_of_mem _ he)]
    rfl
mutual
theorem fD_up : ∀ (n m : Nat) (d : D), n ≤ m → fD n d = true → fD m d = true
  | _, _, .none, _, _ => by simp [fD]
  | _, _, .bool _, _, _ => by simp [fD]
  | _, _, .int i, _, h => by simpa [fD] using h
  | _, _, .str x, _, h => by simpa [fD] using h
  | 0, _, .list _, _, h => by simp [fD] at h
  | n + 1, 0, .list ds, hm, h => absurd hm (by omega)
  | n + 1, m + 1, .list ds, hm, h => by
    simp only [fD] at h ⊢
    exact fDs_up n m ds (by omega) h
  | 0, _, .tuple _, _, h => by simp [fD] at h
  | n + 1, 0, .tuple ds, hm, h => absurd hm (by omega)
  | n + 1, m + 1, .tuple ds, hm, h => by
    simp only [fD] at h ⊢
    exact fDs_up n m ds (by omega) h
  | _, _, .dict _, _, h => by simp [fD] at h
theorem fDs_up : ∀ (n m : Nat) (ds : List D), n ≤ m → fDs n ds = true → fDs m ds = true
  | _, _, [], _, _ => rfl
  | n, m, d :: ds, hm, h => by
    rw [fDs, Bool.and_eq_true] at h ⊢
    exact ⟨fD_up n m d hm h.1, fDs_up n m ds hm h.2⟩
end
theorem fD_okd {n : Nat} {d : D} (h : fD n d = true) (hn : n ≤ 60) : okd d = true := (fD_ok 60 d (fD_up n 60 d hn h)).1
/-! how long data are when shown -/
mutual
def wD : D → Nat
  | .none => 4
  | .bool _ => 5
  | .int i => i.natAbs.log2 + 2
  | .str x => 10 * x.length + 2
  | .list ds => wDs ds + 3
  | .tuple ds => wDs ds + 3
  | .dict _ => 0
def wDs : List D → Nat
  | [] => 0
  | d :: ds => wD d + 2 + wDs ds
end
theorem wDs_le {n : Nat} : ∀ {ds : List D}, (∀ d ∈ ds, wD d ≤ n) → wDs ds ≤ ds.length * (n + 2)
  | [], _ => Nat.zero_le _
  | d :: ds, h => by
    have a := h d List.mem_cons_self
    have b := wDs_le fun e he => h e (List.mem_cons_of_mem _ he)
    rw [wDs, List.length_cons, Nat.add_mul]
    omega
theorem from_le : ∀ (ts : List Str) (k : Nat) (acc : Str), (textFrom k acc ts).length ≤ acc.length + piled ts
  | [], _, _ => Nat.le_refl _
  | t :: ts, k, acc => by
    have h := from_le ts (k + 1) (acc ++ (if k > 0 then ", " else "" : String) ++ t)
    have e : (((if k > 0 then ", " else "" : String) : Str)).length ≤ 2 := by split <;> decide +kernel
    rw [strLen_append, strLen_append] at h
    rw [piled_cons]
    show (textFrom (k + 1) (acc ++ (if k > 0 then ", " else "" : String) ++ t) ts).length ≤ _
    omega
theorem listText_le (ts : List Str) : (listText ts).length ≤ piled ts + 3 := by
  unfold listText
  have h := from_le ts 0 "["
  have e1 : ("[" : Str).length = 1 := by decide +kernel
  have e2 : ("]" : Str).length = 1 := by decide +kernel
  rw [strLen_append]
  omega
theorem tupleText_le (ts : List Str) : (tupleText ts).length ≤ piled ts + 3 := by
  unfold tupleText
  have e1 : ("(" : Str).length = 1 := by decide +kernel
  have e2 : (((if ts.length == 1 then ",)" else ")" : String) : Str)).length ≤ 2 := by split <;> decide +kernel
  rw [strLen_append, strLen_append]
  cases ts with
  | nil =>
    have : (Str.join ", " []).length = 0 := by decide +kernel
    omega
  | cons t ts =>
    have := join_length_add (t :: ts) (by simp)
    omega
theorem strOk_small {x : Str} (h : PyData.strOk x = true) : ∀ c ∈ x.cps.toList, c < 16 ^ 8 := fun c hc => by
  have h : x.cps.toList.all (fun c => decide (c < 0x110000)) = true := by
    rw [Array.all_toList]
    exact h
  have := of_decide_eq_true (List.all_eq_true.mp h c hc)
  omega
mutual
theorem shown_le : ∀ (n : Nat) (d : D), fD n d = true → d.shown.length ≤ wD d
  | _, .none, _ => by decide +kernel
  | _, .bool b, _ => by cases b <;> decide +kernel
  | _, .int i, _ => by
    have := int_text_length_le (a := i) (k := i.natAbs.log2 + 1) (by omega) (by omega)
    have e : (PyData.int i).shown.length = (toString i).length := PyProof.Rows.ofString_len _
    rw [e]
    exact this
  | n, .str x, h => StrLaws.reprText_len x (strOk_small (by simpa [fD] using h))
  | 0, .list _, h => by simp [fD] at h
  | n + 1, .list ds, h => Nat.le_trans (listText_le _) (Nat.add_le_add_right (showns_le n ds (by simpa [fD] using h)) 3)
  | 0, .tuple _, h => by simp [fD] at h
  | n + 1, .tuple ds, h => Nat.le_trans (tupleText_le _) (Nat.add_le_add_right (showns_le n ds (by simpa [fD] using h)) 3)
  | n, .dict _, h => by simp [fD] at h
theorem showns_le : ∀ (n : Nat) (ds : List D), fDs n ds = true → piled (PyData.shownAll ds) ≤ wDs ds
  | _, [], _ => Nat.zero_le _
  | n, d :: ds, h => by
    rw [fDs, Bool.and_eq_true] at h
    have a := shown_le n d h.1
    have b := showns_le n ds h.2
    rw [PyData.shownAll, piled_cons, wDs]
    omega
end
theorem repr_run {n : Nat} {d : D} (h : fD n d = true) (hn : n ≤ 12) (hs : seqB d = true) (hw : wD d ≤ 1000000) : reprD d = .ok (.str d.shown) := by
  obtain ⟨a, b⟩ := fD_ok n d h
  obtain ⟨c1, _, c2⟩ := okD_flat d n a
  unfold reprD
  rw [if_pos]
  rw [b, decide_eq_true (Nat.le_trans (shown_le n d h) hw), c1, decide_eq_true (Nat.le_trans c2 hn), hs]
  rfl
end Pyr

set_option Elab.async false
set_option autoImplicit false
set_option linter.all false
set_option maxRecDepth 100000
set_option maxHeartbeats 4000000
namespace Com2
noncomputable section
open PySem PySem.Spec PyProof.Rows L2 Evl Pyr
abbrev eL (f : En → Res (List Pyr.D)) : En → Res Pyr.D := fun ρ => (f ρ).map .list
def B__law_draws_0 : Frm → Res Fl := (sSeq (sSet 5 (eC (.int 0)))
  (sSeq (sIf (tE boolD (e2 gtD (eN (oneD lenD) (aC (eVar 2) a0)) (eC (.int 0)))) (sSeq (sSet 7 (e2 modD (eN (oneD int2D) (aC (eVar 4) a0)) (eN (oneD lenD) (aC (eVar 2) a0))))
  (sIf (tE boolD (e2 geD (eIxV 2 (eVar 7)) (e2 powD (eC (.int 10)) (eC (.int 18))))) (sSeq (sSet 5 (e2 modD (eN (oneD int2D) (aC (eIxV 2 (eVar 7)) a0)) (eC (.int 1000))))
  (sPut 2 (eVar 7) (e2 fdivD (eIxV 2 (eVar 7)) (eC (.int 1000))))) (sSeq (sSet 8 (e2 modD (eN (oneD int2D) (aC (e2 addD (e2 addD (e2 mul2D (eIxV 2 (eVar 7)) (eC (.int 48271))) (e2 mul2D (eVar 4) (eC (.int 69621)))) (eC (.int 11))) a0)) (eC (.int 2147483647))))
  (sSeq (sSet 8 (e2 modD (eN (oneD int2D) (aC (e2 addD (e2 mul2D (eVar 8) (eC (.int 16807))) (eVar 7)) a0)) (eC (.int 2147483629))))
  (sSet 5 (e2 modD (eN (oneD int2D) (aC (e2 fdivD (eVar 8) (eC (.int 7))) a0)) (eC (.int 1000)))))))) sNext)
  (sKill [7, 8] (sSeq (sApp 3 (eVar 5))
  (sKill [4, 5, 7, 8] sNext)))))
def T__law_draws_3 : Frm → Res Fl := (sKill [4, 5, 7, 8] (sRetO 3))
def T__law_draws_2 : Frm → Res Fl := (sKill [0, 4, 5, 6, 7, 8] (sSeq (sForR (Tg.nm 4) (iF r1D (eVar 1)) B__law_draws_0)
  T__law_draws_3))
def T__law_draws_1 : Frm → Res Fl := (sSeq (sSetL 3 (lN a0))
  T__law_draws_2)
def F__law_draws : Frm → Res Fl := (sSeq (sSetL 2 (lComp [6] (Tg.nm 6) (iF walkD (eVar 0)) tYesR (eVar 6)))
  T__law_draws_1)
noncomputable def m__law_draws : List D → Res RV := hid (defM 2 9 F__law_draws)
theorem u__law_draws : m__law_draws = defM 2 9 F__law_draws := hid_eq _
def T__law_pool_6 : Frm → Res Fl := (sRetL (lComp [8] (Tg.nm 8) (iF r1D (eVar 2)) tYesR (e2 addD (e2 addD (eSlice (eVar 5) oNone (oSome (eVar 6))) (e2 atD (eVar 3) (e2 modD (eN (oneD int2D) (aC (e2 addD (eVar 1) (e2 mul2D (eVar 7) (eVar 8))) a0)) (eC (.int 36))))) (eSlice (eVar 5) (oSome (eVar 6)) oNone))))
def T__law_pool_5 : Frm → Res Fl := (sSeq (sSet 7 (e2 addD (eC (.int 1)) (e2 mul2D (eC (.int 4)) (e2 modD (eN (oneD int2D) (aC (e2 fdivD (eVar 1) (eC (.int 4))) a0)) (eC (.int 2))))))
  T__law_pool_6)
def T__law_pool_4 : Frm → Res Fl := (sSeq (sSet 6 (e2 modD (eN (oneD int2D) (aC (eVar 1) a0)) (e2 addD (eVar 4) (eC (.int 1)))))
  T__law_pool_5)
def T__law_pool_3 : Frm → Res Fl := (sSeq (sSet 5 (eJoin (eC (.str "")) (eL (lComp [8] (Tg.nm 8) (iF r1D (eVar 4)) tYesR (e2 atD (eVar 3) (e2 modD (eN (oneD int2D) (aC (e2 addD (eVar 0) (e2 mul2D (e2 mul2D (eC (.int 7)) (eVar 8)) (e2 addD (eC (.int 1)) (e2 modD (eN (oneD int2D) (aC (eVar 1) a0)) (eC (.int 3)))))) a0)) (eC (.int 36))))))))
  T__law_pool_4)
def T__law_pool_2 : Frm → Res Fl := (sSeq (sIf (tE boolD (e2 eqD (e2 modD (eN (oneD int2D) (aC (eVar 0) a0)) (eC (.int 9))) (eC (.int 8)))) (sSet 4 (eC (.int 11))) sNext)
  T__law_pool_3)
def T__law_pool_1 : Frm → Res Fl := (sSeq (sSet 4 (e2 modD (eN (oneD int2D) (aC (eVar 0) a0)) (eC (.int 4))))
  T__law_pool_2)
def F__law_pool : Frm → Res Fl := (sSeq (sSet 3 (eC (.str "abcdefghijklmnopqrstuvwxyz0123456789")))
  T__law_pool_1)
noncomputable def m__law_pool : List D → Res RV := hid (defM 3 9 F__law_pool)
theorem u__law_pool : m__law_pool = defM 3 9 F__law_pool := hid_eq _
def B__law_place_0 : Frm → Res Fl := (sSeq (sIf (tE boolD (e2 eqD (e2 atD (e2 atD (eVar 0) (eVar 2)) (eC (.int 0))) (eVar 1))) (sRet (eVar 2)) sNext)
  (sKill [2] sNext))
def F__law_place : Frm → Res Fl := (sKill [2] (sSeq (sForR (Tg.nm 2) (iF r1D (eN (oneD lenD) (aC (eVar 0) a0))) B__law_place_0)
  (sKill [2] (sRet (eN (oneD lenD) (aC (eVar 0) a0))))))
noncomputable def m__law_place : List D → Res RV := hid (defM 2 3 F__law_place)
theorem u__law_place : m__law_place = defM 2 3 F__law_place := hid_eq _
def B__law_ascending_0 : Frm → Res Fl := (sSeq (sIf (tE boolD (e2 notInD (eN tupD (aC (e2 atD (e2 atD (eVar 0) (eVar 3)) (eC (.int 0))) (aC (eVar 4) a0))) (eVar 2))) (sApp 2 (eN tupD (aC (e2 atD (e2 atD (eVar 0) (eVar 3)) (eC (.int 0))) (aC (eVar 4) a0)))) sNext)
  (sKill [3, 4] sNext))
def F__law_ascending : Frm → Res Fl := (sSeq (sSetL 2 (lN a0))
  (sKill [3, 4, 5] (sSeq (sFor (Tg.tp [3, 4]) (iF walkD (eL (lF (oneL sortL) (aC (eL (lComp [5] (Tg.nm 5) (iF walkD (eVar 1)) tYesR (eN tupD (aC (eCall m__law_place (aC (eVar 0) (aC (e2 atD (eVar 5) (eC (.int 0))) a0))) (aC (e2 atD (eVar 5) (eC (.int 1))) a0))))) a0)))) B__law_ascending_0)
  (sKill [3, 4] (sRetO 2)))))
noncomputable def m__law_ascending : List D → Res RV := hid (defM 2 6 F__law_ascending)
theorem u__law_ascending : m__law_ascending = defM 2 6 F__law_ascending := hid_eq _
def B_place_of_0 : Frm → Res Fl := (sSeq (sIf (tE boolD (e2 eqD (e2 atD (eVar 3) (eC (.int 0))) (eVar 1))) (sRet (eVar 2)) sNext)
  (sKill [2, 3] sNext))
def F_place_of : Frm → Res Fl := (sKill [2, 3] (sSeq (sFor (Tg.tp [2, 3]) (iF enumD (eVar 0)) B_place_of_0)
  (sKill [2, 3] (sRet (eC .none)))))
noncomputable def m_place_of : List D → Res RV := hid (defM 2 4 F_place_of)
theorem u_place_of : m_place_of = defM 2 4 F_place_of := hid_eq _
def F__law_is_integer : Frm → Res Fl := (sRet (eAnd (e1 (isiD "int") (eVar 0)) (eNot (e1 (isiD "bool") (eVar 0)))))
noncomputable def m__law_is_integer : List D → Res RV := hid (defM 1 1 F__law_is_integer)
theorem u__law_is_integer : m__law_is_integer = defM 1 1 F__law_is_integer := hid_eq _
theorem pow18 : powD (.int 10) (.int 18) = .ok (.int 1000000000000000000) := rfl
theorem ixN_nat {n j : Nat} (h : j < n) : ixN n (j : Int) = some j := by
  unfold ixN
  simp only [Int.natCast_nonneg, if_true, Int.toNat_natCast, decide_true]
  first | exact if_pos h | (simp; omega)
theorem draw_step (b : Sl) (R Ds : List Int) (k : Nat) (hR : R.length ≤ 100000) (hD : Ds.length ≤ 50000) : ∃ (R' : List Int) (v : Int),
    B__law_draws_0 [.emp, b, .own (.lst (R.map .int)), .own (.lst (Ds.map .int)), .val (.int (k : Int)), .emp, .emp, .emp, .emp] = .ok (.next [.emp, b, .own (.lst (R'.map .int)), .own (.lst ((Ds ++ [v]).map .int)), .emp, .emp, .emp, .emp, .emp]) ∧ R'.length = R.length ∧ 0 ≤ v ∧ v < 1000 := by
  have lR : (R.map PyData.int).length = R.length := List.length_map _
  have lD : (Ds.map PyData.int).length = Ds.length := List.length_map _
  by_cases h0 : 0 < R.length
  · obtain ⟨j, ej, hj⟩ := fmod_nat (k : Int) h0
    have h0 : (0 : Int) < (R.length : Int) := by omega
    have hat : atD (.list (R.map PyData.int)) (.int (j : Int)) = .ok (.int R[j]) := at_list (by simp [hj])
    by_cases h1 : 1000000000000000000 ≤ R[j]
    · refine ⟨R.set j (R[j].fdiv 1000), R[j].fmod 1000, ?_, by rw [List.length_set], (fmod_in _ (by decide)).1, (fmod_in _ (by decide)).2⟩
      unfold B__law_draws_0
      simp -implicitDefEqProofs (disch := omega) only [Pyr.run_flI, Pyr.run_flB, Pyr.run_flS, Pyr.run_flN, Pyr.sSeq, Pyr.sKill, Pyr.run_kill0, Pyr.run_killS, Pyr.sIf, Pyr.sSet, Pyr.sSetL, Pyr.sRet, Pyr.sRetL, Pyr.sRetN, Pyr.sRetO, Pyr.sDrop, Pyr.sApp, Pyr.sNext, Pyr.sFrz, Pyr.sSetT, Pyr.tgF, Pyr.setsF, Pyr.evP, Pyr.evL, Pyr.evT, Pyr.bare, Pyr.eC, Pyr.e1, Pyr.e2, Pyr.eN, Pyr.aC, Pyr.a0, Pyr.eIf, Pyr.eAnd, Pyr.eOr, Pyr.eNot, Pyr.eChain, Pyr.tE, Pyr.tNotR, Pyr.tAndR, Pyr.tOrR, Pyr.eCall, Pyr.lCall, Pyr.iF, Pyr.iF2, Pyr.lN, Pyr.lF, Pyr.eFs, Pyr.jC, Pyr.j0, Pyr.eIxV, Pyr.ownI, Pyr.lAdd, Pyr.sExt, Pyr.sPop, Pyr.trF, Pyr.trsF, Trs.len, Pyr.run_max2, Pyr.run_min2, Pyr.backD, Pyr.eSlice, Pyr.oNone, Pyr.oSome, Pyr.optI, Pyr.lSlice, Pyr.listD, eL, Pyr.eB, Pyr.oneD, Pyr.oneL, Pyr.itemsD, Pyr.outR, Pyr.ownD, Pyr.RV.d, Pyr.tupD, Pyr.run_mul, Pyr.run_mulS, Pyr.run_add, Pyr.run_sub, Pyr.run_addS, Pyr.run_mod, Pyr.run_fdiv, Pyr.run_lt, Pyr.run_le, Pyr.run_gt, Pyr.run_ge, Pyr.run_lenL, Pyr.run_lenT, Pyr.run_lenS, Pyr.run_int, Pyr.run_bool, Pyr.run_truB, Pyr.run_truL, Pyr.run_pur1, Pyr.run_frz1, Pyr.run_pSv, Pyr.run_pSo, Pyr.run_pSe, Pyr.run_fSv, Pyr.run_fSo, Pyr.run_fSe, Pyr.run_pur0, Pyr.run_frz0, Pyr.run_v0n, Pyr.run_v0b, Pyr.run_v0i, Pyr.run_v0s, Pyr.run_v0l, Pyr.run_v0t, Pyr.run_v0o, Pyr.run_vN, Pyr.run_vS, Pyr.run_bad, Pyr.run_exc, Pyr.run_map, Pyr.run_okL, List.length_cons, List.length_nil, Pyr.bind_ok, List.set_cons_zero, List.set_cons_succ, List.getElem?_cons_zero, List.getElem?_cons_succ, Pyr.eqD_int, Pyr.eqD_str, Pyr.neD_int, Pyr.neD_str, if_true, if_false, Bool.not_true, Bool.not_false, Bool.false_eq_true, decide_true, decide_false, Pyr.run_atT0, Pyr.run_atT1, Pyr.run_atT2, Pyr.run_atT3, Pyr.run_atT4, Pyr.run_atL0, Pyr.run_atL1, Pyr.run_atL2, Pyr.run_atL3, Pyr.run_atL4, Pyr.isi_str_n, Pyr.isi_str_b, Pyr.isi_str_i, Pyr.isi_str_s, Pyr.isi_str_l, Pyr.isi_str_t, Pyr.isi_str_d, Pyr.isi_int_n, Pyr.isi_int_b, Pyr.isi_int_i, Pyr.isi_int_s, Pyr.isi_int_l, Pyr.isi_int_t, Pyr.isi_int_d, Pyr.isi_bool_n, Pyr.isi_bool_b, Pyr.isi_bool_i, Pyr.isi_bool_s, Pyr.isi_bool_l, Pyr.isi_bool_t, Pyr.isi_bool_d, Pyr.isi_list_n, Pyr.isi_list_b, Pyr.isi_list_i, Pyr.isi_list_s, Pyr.isi_list_l, Pyr.isi_list_t, Pyr.isi_list_d, Pyr.isi_tuple_n, Pyr.isi_tuple_b, Pyr.isi_tuple_i, Pyr.isi_tuple_s, Pyr.isi_tuple_l, Pyr.isi_tuple_t, Pyr.isi_tuple_d, Pyr.isi_dict_n, Pyr.isi_dict_b, Pyr.isi_dict_i, Pyr.isi_dict_s, Pyr.isi_dict_l, Pyr.isi_dict_t, Pyr.isi_dict_d, Nat.reduceAdd, Int.cast_ofNat_Int, Int.natCast_zero, Int.natCast_one, Int.reduceEq, Int.reduceLT, Int.reduceLE, Int.reduceAdd, Int.reduceSub, Int.reduceMul, Int.reduceNeg, Int.reduceNe, Nat.zero_add, reduceIte, decide_eq_true_eq, beq_self_eq_true, eq_self, Bool.true_or, Bool.or_true, Bool.and_true, Bool.true_and, Bool.false_or, Bool.or_false, Bool.and_false, Bool.false_and, lR, lD, h0, ej, hat, pow18, h1, sPut, ixN_nat, List.map_append, List.map_cons, List.map_nil, List.map_set]
    · refine ⟨R, ((((((R[j] * 48271 + k * 69621 + 11).fmod 2147483647) * 16807 + j).fmod 2147483629).fdiv 7).fmod 1000), ?_, rfl, (fmod_in _ (by decide)).1, (fmod_in _ (by decide)).2⟩
      unfold B__law_draws_0
      simp -implicitDefEqProofs (disch := omega) only [Pyr.run_flI, Pyr.run_flB, Pyr.run_flS, Pyr.run_flN, Pyr.sSeq, Pyr.sKill, Pyr.run_kill0, Pyr.run_killS, Pyr.sIf, Pyr.sSet, Pyr.sSetL, Pyr.sRet, Pyr.sRetL, Pyr.sRetN, Pyr.sRetO, Pyr.sDrop, Pyr.sApp, Pyr.sNext, Pyr.sFrz, Pyr.sSetT, Pyr.tgF, Pyr.setsF, Pyr.evP, Pyr.evL, Pyr.evT, Pyr.bare, Pyr.eC, Pyr.e1, Pyr.e2, Pyr.eN, Pyr.aC, Pyr.a0, Pyr.eIf, Pyr.eAnd, Pyr.eOr, Pyr.eNot, Pyr.eChain, Pyr.tE, Pyr.tNotR, Pyr.tAndR, Pyr.tOrR, Pyr.eCall, Pyr.lCall, Pyr.iF, Pyr.iF2, Pyr.lN, Pyr.lF, Pyr.eFs, Pyr.jC, Pyr.j0, Pyr.eIxV, Pyr.ownI, Pyr.lAdd, Pyr.sExt, Pyr.sPop, Pyr.trF, Pyr.trsF, Trs.len, Pyr.run_max2, Pyr.run_min2, Pyr.backD, Pyr.eSlice, Pyr.oNone, Pyr.oSome, Pyr.optI, Pyr.lSlice, Pyr.listD, eL, Pyr.eB, Pyr.oneD, Pyr.oneL, Pyr.itemsD, Pyr.outR, Pyr.ownD, Pyr.RV.d, Pyr.tupD, Pyr.run_mul, Pyr.run_mulS, Pyr.run_add, Pyr.run_sub, Pyr.run_addS, Pyr.run_mod, Pyr.run_fdiv, Pyr.run_lt, Pyr.run_le, Pyr.run_gt, Pyr.run_ge, Pyr.run_lenL, Pyr.run_lenT, Pyr.run_lenS, Pyr.run_int, Pyr.run_bool, Pyr.run_truB, Pyr.run_truL, Pyr.run_pur1, Pyr.run_frz1, Pyr.run_pSv, Pyr.run_pSo, Pyr.run_pSe, Pyr.run_fSv, Pyr.run_fSo, Pyr.run_fSe, Pyr.run_pur0, Pyr.run_frz0, Pyr.run_v0n, Pyr.run_v0b, Pyr.run_v0i, Pyr.run_v0s, Pyr.run_v0l, Pyr.run_v0t, Pyr.run_v0o, Pyr.run_vN, Pyr.run_vS, Pyr.run_bad, Pyr.run_exc, Pyr.run_map, Pyr.run_okL, List.length_cons, List.length_nil, Pyr.bind_ok, List.set_cons_zero, List.set_cons_succ, List.getElem?_cons_zero, List.getElem?_cons_succ, Pyr.eqD_int, Pyr.eqD_str, Pyr.neD_int, Pyr.neD_str, if_true, if_false, Bool.not_true, Bool.not_false, Bool.false_eq_true, decide_true, decide_false, Pyr.run_atT0, Pyr.run_atT1, Pyr.run_atT2, Pyr.run_atT3, Pyr.run_atT4, Pyr.run_atL0, Pyr.run_atL1, Pyr.run_atL2, Pyr.run_atL3, Pyr.run_atL4, Pyr.isi_str_n, Pyr.isi_str_b, Pyr.isi_str_i, Pyr.isi_str_s, Pyr.isi_str_l, Pyr.isi_str_t, Pyr.isi_str_d, Pyr.isi_int_n, Pyr.isi_int_b, Pyr.isi_int_i, Pyr.isi_int_s, Pyr.isi_int_l, Pyr.isi_int_t, Pyr.isi_int_d, Pyr.isi_bool_n, Pyr.isi_bool_b, Pyr.isi_bool_i, Pyr.isi_bool_s, Pyr.isi_bool_l, Pyr.isi_bool_t, Pyr.isi_bool_d, Pyr.isi_list_n, Pyr.isi_list_b, Pyr.isi_list_i, Pyr.isi_list_s, Pyr.isi_list_l, Pyr.isi_list_t, Pyr.isi_list_d, Pyr.isi_tuple_n, Pyr.isi_tuple_b, Pyr.isi_tuple_i, Pyr.isi_tuple_s, Pyr.isi_tuple_l, Pyr.isi_tuple_t, Pyr.isi_tuple_d, Pyr.isi_dict_n, Pyr.isi_dict_b, Pyr.isi_dict_i, Pyr.isi_dict_s, Pyr.isi_dict_l, Pyr.isi_dict_t, Pyr.isi_dict_d, Nat.reduceAdd, Int.cast_ofNat_Int, Int.natCast_zero, Int.natCast_one, Int.reduceEq, Int.reduceLT, Int.reduceLE, Int.reduceAdd, Int.reduceSub, Int.reduceMul, Int.reduceNeg, Int.reduceNe, Nat.zero_add, reduceIte, decide_eq_true_eq, beq_self_eq_true, eq_self, Bool.true_or, Bool.or_true, Bool.and_true, Bool.true_and, Bool.false_or, Bool.or_false, Bool.and_false, Bool.false_and, lR, lD, h0, ej, hat, pow18, h1, List.map_append, List.map_cons, List.map_nil]
  · refine ⟨R, 0, ?_, rfl, by decide, by decide⟩
    have h0 : ¬ (0 : Int) < (R.length : Int) := by omega
    unfold B__law_draws_0
    simp -implicitDefEqProofs (disch := omega) only [Pyr.run_flI, Pyr.run_flB, Pyr.run_flS, Pyr.run_flN, Pyr.sSeq, Pyr.sKill, Pyr.run_kill0, Pyr.run_killS, Pyr.sIf, Pyr.sSet, Pyr.sSetL, Pyr.sRet, Pyr.sRetL, Pyr.sRetN, Pyr.sRetO, Pyr.sDrop, Pyr.sApp, Pyr.sNext, Pyr.sFrz, Pyr.sSetT, Pyr.tgF, Pyr.setsF, Pyr.evP, Pyr.evL, Pyr.evT, Pyr.bare, Pyr.eC, Pyr.e1, Pyr.e2, Pyr.eN, Pyr.aC, Pyr.a0, Pyr.eIf, Pyr.eAnd, Pyr.eOr, Pyr.eNot, Pyr.eChain, Pyr.tE, Pyr.tNotR, Pyr.tAndR, Pyr.tOrR, Pyr.eCall, Pyr.lCall, Pyr.iF, Pyr.iF2, Pyr.lN, Pyr.lF, Pyr.eFs, Pyr.jC, Pyr.j0, Pyr.eIxV, Pyr.ownI, Pyr.lAdd, Pyr.sExt, Pyr.sPop, Pyr.trF, Pyr.trsF, Trs.len, Pyr.run_max2, Pyr.run_min2, Pyr.backD, Pyr.eSlice, Pyr.oNone, Pyr.oSome, Pyr.optI, Pyr.lSlice, Pyr.listD, eL, Pyr.eB, Pyr.oneD, Pyr.oneL, Pyr.itemsD, Pyr.outR, Pyr.ownD, Pyr.RV.d, Pyr.tupD, Pyr.run_mul, Pyr.run_mulS, Pyr.run_add, Pyr.run_sub, Pyr.run_addS, Pyr.run_mod, Pyr.run_fdiv, Pyr.run_lt, Pyr.run_le, Pyr.run_gt, Pyr.run_ge, Pyr.run_lenL, Pyr.run_lenT, Pyr.run_lenS, Pyr.run_int, Pyr.run_bool, Pyr.run_truB, Pyr.run_truL, Pyr.run_pur1, Pyr.run_frz1, Pyr.run_pSv, Pyr.run_pSo, Pyr.run_pSe, Pyr.run_fSv, Pyr.run_fSo, Pyr.run_fSe, Pyr.run_pur0, Pyr.run_frz0, Pyr.run_v0n, Pyr.run_v0b, Pyr.run_v0i, Pyr.run_v0s, Pyr.run_v0l, Pyr.run_v0t, Pyr.run_v0o, Pyr.run_vN, Pyr.run_vS, Pyr.run_bad, Pyr.run_exc, Pyr.run_map, Pyr.run_okL, List.length_cons, List.length_nil, Pyr.bind_ok, List.set_cons_zero, List.set_cons_succ, List.getElem?_cons_zero, List.getElem?_cons_succ, Pyr.eqD_int, Pyr.eqD_str, Pyr.neD_int, Pyr.neD_str, if_true, if_false, Bool.not_true, Bool.not_false, Bool.false_eq_true, decide_true, decide_false, Pyr.run_atT0, Pyr.run_atT1, Pyr.run_atT2, Pyr.run_atT3, Pyr.run_atT4, Pyr.run_atL0, Pyr.run_atL1, Pyr.run_atL2, Pyr.run_atL3, Pyr.run_atL4, Pyr.isi_str_n, Pyr.isi_str_b, Pyr.isi_str_i, Pyr.isi_str_s, Pyr.isi_str_l, Pyr.isi_str_t, Pyr.isi_str_d, Pyr.isi_int_n, Pyr.isi_int_b, Pyr.isi_int_i, Pyr.isi_int_s, Pyr.isi_int_l, Pyr.isi_int_t, Pyr.isi_int_d, Pyr.isi_bool_n, Pyr.isi_bool_b, Pyr.isi_bool_i, Pyr.isi_bool_s, Pyr.isi_bool_l, Pyr.isi_bool_t, Pyr.isi_bool_d, Pyr.isi_list_n, Pyr.isi_list_b, Pyr.isi_list_i, Pyr.isi_list_s, Pyr.isi_list_l, Pyr.isi_list_t, Pyr.isi_list_d, Pyr.isi_tuple_n, Pyr.isi_tuple_b, Pyr.isi_tuple_i, Pyr.isi_tuple_s, Pyr.isi_tuple_l, Pyr.isi_tuple_t, Pyr.isi_tuple_d, Pyr.isi_dict_n, Pyr.isi_dict_b, Pyr.isi_dict_i, Pyr.isi_dict_s, Pyr.isi_dict_l, Pyr.isi_dict_t, Pyr.isi_dict_d, Nat.reduceAdd, Int.cast_ofNat_Int, Int.natCast_zero, Int.natCast_one, Int.reduceEq, Int.reduceLT, Int.reduceLE, Int.reduceAdd, Int.reduceSub, Int.reduceMul, Int.reduceNeg, Int.reduceNe, Nat.zero_add, reduceIte, decide_eq_true_eq, beq_self_eq_true, eq_self, Bool.true_or, Bool.or_true, Bool.and_true, Bool.true_and, Bool.false_or, Bool.or_false, Bool.and_false, Bool.false_and, lR, lD, h0, List.map_append, List.map_cons, List.map_nil]
/-- numbers below 1000 -/
def Dr (vs : List Int) : Prop := ∀ v ∈ vs, (0 : Int) ≤ v ∧ v < 1000
theorem draws_run (xs : List Int) (n : Nat) (hx : xs.length ≤ 63) (hn : n ≤ 1000) : ∃ vs : List Int, m__law_draws [.list (xs.map .int), .int (n : Int)] = .ok (.own (vs.map .int)) ∧ vs.length = n ∧ Dr vs := by
  have hr : r1D (.int (n : Int)) = .ok (upto 0 n) := r1D_nat (by show _ ≤ 100000; omega)
  have hc : lComp [6] (Tg.nm 6) (iF walkD (eVar 0)) tYesR (eVar 6) (purE [.val (.list (xs.map .int)), .val (.int (n : Int)), .emp, .emp, .emp, .emp, .emp, .emp, .emp]) = .ok (xs.map .int) :=
    lComp_ok (ds := xs.map .int) rfl (by rw [List.length_map]; omega) (compF_en PyData.int PyData.int xs fun x _ => ⟨_, rfl, rfl, rfl⟩)
  obtain ⟨⟨R', Ds⟩, e, i1, i2, i3⟩ := forF_exN (S := List Int × List Int) (t := Tg.nm 4) (F := B__law_draws_0) (fun s => [.emp, .val (.int (n : Int)), .own (.lst (s.1.map .int)), .own (.lst (s.2.map .int)), .emp, .emp, .emp, .emp, .emp])
    (fun k s => s.1.length = xs.length ∧ s.2.length = k ∧ Dr s.2) n 0 (xs, []) ⟨rfl, rfl, fun v h => nomatch h⟩ fun k s _ hk ⟨h1, h2, h3⟩ => by
      obtain ⟨R', v, q1, q2, q3, q4⟩ := draw_step (.val (.int (n : Int))) s.1 s.2 k (by omega) (by omega)
      refine ⟨(R', s.2 ++ [v]), _, rfl, .inl q1, q2.trans h1, by rw [List.length_append, h2]; rfl, fun u hu => ?_⟩
      rcases List.mem_append.mp hu with hu | hu
      · exact h3 u hu
      · rw [List.mem_singleton.mp hu]
        exact ⟨q3, q4⟩
  rw [Nat.zero_add] at i2
  refine ⟨Ds, ?_, i2, i3⟩
  rw [u__law_draws]
  rw [defM_eq (np := 2) rfl]
  show outR (F__law_draws [.val (.list (xs.map .int)), .val (.int (n : Int)), .emp, .emp, .emp, .emp, .emp, .emp, .emp]) = _
  unfold F__law_draws
  rw [seq_ok (setL_ok hc)]
  have e : forF (Tg.nm 4) B__law_draws_0 (upto 0 n) [.emp, .val (.int (n : Int)), .own (.lst (xs.map .int)), .own (.lst []), .emp, .emp, .emp, .emp, .emp] = .ok (.next [.emp, .val (.int (n : Int)), .own (.lst (R'.map .int)), .own (.lst (Ds.map .int)), .emp, .emp, .emp, .emp, .emp]) := e
  unfold T__law_draws_1
  rw [seq_ok (setL_ok (d := []) rfl)]
  unfold T__law_draws_2
  show outR (sSeq (sForR (Tg.nm 4) (iF r1D (eVar 1)) B__law_draws_0) T__law_draws_3 [.emp, .val (.int (n : Int)), .own (.lst (xs.map .int)), .own (.lst []), .emp, .emp, .emp, .emp, .emp]) = _
  rw [seq_ok ((forR_ok (ds := upto 0 n) ((iF_ok (x := .int (n : Int)) rfl).trans hr) (upto_flat _ _)).trans e)]
  rfl
end
end Com2

set_option Elab.async false
set_option autoImplicit false
set_option linter.all false
set_option maxRecDepth 100000
set_option maxHeartbeats 4000000
namespace Com2
noncomputable section
open PySem PySem.Spec PyProof.Rows L2 Evl Pyr
/-! ### words -/
abbrev lets : Str := "abcdefghijklmnopqrstuvwxyz0123456789"
def ofL (l : List Nat) : Str := ⟨l.toArray⟩
theorem ofL_tl (l : List Nat) : (ofL l).cps.toList = l := by simp [ofL]
theorem ofL_len (l : List Nat) : (ofL l).length = l.length := by rw [tl_len, ofL_tl]
theorem str_eq {x y : Str} (h : x.cps.toList = y.cps.toList) : x = y := TL.ext_tl h
theorem lets_is : lets.cps.toList = [97, 98, 99, 100, 101, 102, 103, 104, 105, 106, 107, 108, 109, 110, 111, 112, 113, 114, 115, 116, 117, 118, 119, 120, 121, 122, 48, 49, 50, 51, 52, 53, 54, 55, 56, 57] := by decide +kernel
theorem lets_len : lets.length = 36 := by decide +kernel
/-- the letter with this number -/
def lc (j : Nat) : Nat := lets.cps.toList.getD j 0
theorem lc_in {j : Nat} (h : j < 36) : lc j ∈ lets.cps.toList := by
  have : ∀ j < 36, decide (lc j ∈ lets.cps.toList) = true := by decide +kernel
  exact of_decide_eq_true (this j h)
theorem lc_inj {i j : Nat} (hi : i < 36) (hj : j < 36) (h : lc i = lc j) : i = j := by
  have : ∀ i < 36, ∀ j < 36, (lc i == lc j) = (i == j) := by decide +kernel
  have q := this i hi j hj
  rw [h, beq_self_eq_true] at q
  exact eq_of_beq q.symm
theorem lc_at {j : Nat} (h : j < 36) : atD (.str lets) (.int (j : Int)) = .ok (.str (ofL [lc j])) := by
  have hl : lets.cps.toList.length = 36 := by rw [← tl_len]; exact lets_len
  refine at_str ?_ (by rw [lets_len]; decide)
  unfold lc
  rw [List.getD_eq_getElem?_getD, List.getElem?_eq_getElem (by omega)]
  rfl
theorem let_at (n : Int) : ∃ j : Nat, n.fmod 36 = j ∧ j < 36 ∧ atD (.str lets) (.int (n.fmod 36)) = .ok (.str (ofL [lc j])) := by
  obtain ⟨j, e, h⟩ := fmod_nat n (m := 36) (by decide)
  have e : n.fmod 36 = (j : Int) := e
  exact ⟨j, e, h, by rw [e]; exact lc_at h⟩
def LetS (x : Str) : Prop := ∀ c ∈ x.cps.toList, c ∈ lets.cps.toList
/-- a word -/
def Wd (x : Str) : Prop := 1 ≤ x.length ∧ x.length ≤ 12 ∧ LetS x
theorem letS_ok {x : Str} (h : LetS x) : PyData.strOk x = true := by
  have : x.cps.toList.all (fun c => decide (c < 0x110000)) = true := List.all_eq_true.mpr fun c hc => by
    have a := h c hc
    have b : ∀ c ∈ lets.cps.toList, c < 0x110000 := by rw [lets_is]; decide +kernel
    exact decide_eq_true (b c a)
  rw [Array.all_toList] at this
  exact this
theorem wd_f {x : Str} (h : Wd x) (n : Nat) : fD n (.str x) = true := by
  have := letS_ok h.2.2
  cases n <;> simpa [fD] using this
theorem cut_front (x : Str) (p : Nat) : (cutS x none (some (p : Int))).cps.toList = x.cps.toList.take p := by
  have hl : x.length = x.cps.toList.length := tl_len x
  simp only [cutS, HT.sIx_none, HT.sIx_nat, List.drop_zero, Nat.sub_zero, List.toList_toArray]
  rw [hl, List.take_eq_take_iff]
  omega
theorem cut_back (x : Str) (p : Nat) : (cutS x (some (p : Int)) none).cps.toList = x.cps.toList.drop p := by
  have hl : x.length = x.cps.toList.length := tl_len x
  simp only [cutS, HT.sIx_none, HT.sIx_nat, List.toList_toArray]
  rw [hl, List.take_of_length_le (by rw [List.length_drop]; omega)]
  by_cases h : p ≤ x.cps.toList.length
  · rw [Nat.min_eq_left h]
  · rw [Nat.min_eq_right (by omega), List.drop_of_length_le (Nat.le_refl _), List.drop_of_length_le (by omega)]
theorem joinL_nil : ∀ l : List (List Nat), TL.joinL [] l = l.flatten
  | [] => rfl
  | [p] => by simp [TL.joinL]
  | p :: q :: r => by rw [TL.joinL, joinL_nil (q :: r)]; simp
theorem joinD_chars (cs : List Nat) (h : cs.length ≤ 1000) : joinD ("" : Str) (.list (cs.map fun c => .str (ofL [c]))) = .ok (.str (ofL cs)) := by
  have e1 : ∀ cs : List Nat, strsD (cs.map fun c => PyData.str (ofL [c])) = some (cs.map fun c => ofL [c]) := fun cs => by
    induction cs with
    | nil => rfl
    | cons c cs ih => show (strsD (cs.map fun c => PyData.str (ofL [c]))).map _ = _; rw [ih]; rfl
  show joinS "" (cs.map fun c => .str (ofL [c])) = _
  unfold joinS
  rw [e1]
  have e2 : ((cs.map fun c => ofL [c]).map (·.length)).sum = cs.length := by
    induction cs with
    | nil => rfl
    | cons c cs ih =>
      rw [List.map_cons, List.map_cons, List.sum_cons, ih (by simp at h; omega), List.length_cons, ofL_len]
      simp
      omega
  have e3 : ("" : Str).length = 0 := by decide +kernel
  show (if _ ≤ LIM then Res.ok (PyData.str (Txt.join "" (cs.map fun c => ofL [c]))) else .bad) = _
  rw [if_pos (by rw [e2, e3, Nat.mul_zero]; show _ ≤ 100000; omega)]
  congr 2
  refine str_eq ?_
  rw [ofL_tl, TL.join_eq]
  have : (Str.join "" (cs.map fun c => ofL [c])).cps.toList = _ := TL.tl_join "" (cs.map fun c => ofL [c])
  rw [this]
  show TL.joinL ("" : Str).cps.toList _ = _
  rw [show ("" : Str).cps.toList = [] from by decide +kernel, joinL_nil, List.map_map]
  clear this e1 e2 h
  induction cs with
  | nil => rfl
  | cons c cs ih => rw [List.map_cons, List.flatten_cons, ih]; simp [TL.tl, ofL]
/-! ### _law_pool(first, second, many) -/
theorem pool_run3 (a b : Int) (m : Nat) (hm : m ≤ 20) (ha : 0 ≤ a ∧ a < 1000) (hb : 0 ≤ b ∧ b < 2000) :
    ∃ ws : List Str, m__law_pool [.int a, .int b, .int (m : Int)] = .ok (.own (ws.map .str)) ∧ ws.length = m ∧ (∀ w ∈ ws, Wd w) ∧ ws.Nodup ∧ ∃ n, ∀ w ∈ ws, w.length = n := by
  -- the size
  obtain ⟨s, hs, es⟩ : ∃ s : Nat, s ≤ 11 ∧ T__law_pool_1 [.val (.int a), .val (.int b), .val (.int (m : Int)), .val (.str lets), .emp, .emp, .emp, .emp, .emp] = T__law_pool_3 [.val (.int a), .val (.int b), .val (.int (m : Int)), .val (.str lets), .val (.int (s : Int)), .emp, .emp, .emp, .emp] := by
    obtain ⟨j, ej, hj⟩ := fmod_nat a (m := 4) (by decide)
    have ej : a.fmod 4 = (j : Int) := ej
    by_cases h9 : a.fmod 9 = 8
    · refine ⟨11, Nat.le_refl _, ?_⟩
      unfold T__law_pool_1 T__law_pool_2
      simp -implicitDefEqProofs (disch := omega) only [Pyr.run_flI, Pyr.run_flB, Pyr.run_flS, Pyr.run_flN, Pyr.sSeq, Pyr.sKill, Pyr.run_kill0, Pyr.run_killS, Pyr.sIf, Pyr.sSet, Pyr.sSetL, Pyr.sRet, Pyr.sRetL, Pyr.sRetN, Pyr.sRetO, Pyr.sDrop, Pyr.sApp, Pyr.sNext, Pyr.sFrz, Pyr.sSetT, Pyr.tgF, Pyr.setsF, Pyr.evP, Pyr.evL, Pyr.evT, Pyr.bare, Pyr.eC, Pyr.e1, Pyr.e2, Pyr.eN, Pyr.aC, Pyr.a0, Pyr.eIf, Pyr.eAnd, Pyr.eOr, Pyr.eNot, Pyr.eChain, Pyr.tE, Pyr.tNotR, Pyr.tAndR, Pyr.tOrR, Pyr.eCall, Pyr.lCall, Pyr.iF, Pyr.iF2, Pyr.lN, Pyr.lF, Pyr.eFs, Pyr.jC, Pyr.j0, Pyr.eIxV, Pyr.ownI, Pyr.lAdd, Pyr.sExt, Pyr.sPop, Pyr.trF, Pyr.trsF, Trs.len, Pyr.run_max2, Pyr.run_min2, Pyr.backD, Pyr.eSlice, Pyr.oNone, Pyr.oSome, Pyr.optI, Pyr.lSlice, Pyr.listD, eL, Pyr.eB, Pyr.oneD, Pyr.oneL, Pyr.itemsD, Pyr.outR, Pyr.ownD, Pyr.RV.d, Pyr.tupD, Pyr.run_mul, Pyr.run_mulS, Pyr.run_add, Pyr.run_sub, Pyr.run_addS, Pyr.run_mod, Pyr.run_fdiv, Pyr.run_lt, Pyr.run_le, Pyr.run_gt, Pyr.run_ge, Pyr.run_lenL, Pyr.run_lenT, Pyr.run_lenS, Pyr.run_int, Pyr.run_bool, Pyr.run_truB, Pyr.run_truL, Pyr.run_pur1, Pyr.run_frz1, Pyr.run_pSv, Pyr.run_pSo, Pyr.run_pSe, Pyr.run_fSv, Pyr.run_fSo, Pyr.run_fSe, Pyr.run_pur0, Pyr.run_frz0, Pyr.run_v0n, Pyr.run_v0b, Pyr.run_v0i, Pyr.run_v0s, Pyr.run_v0l, Pyr.run_v0t, Pyr.run_v0o, Pyr.run_vN, Pyr.run_vS, Pyr.run_bad, Pyr.run_exc, Pyr.run_map, Pyr.run_okL, List.length_cons, List.length_nil, Pyr.bind_ok, List.set_cons_zero, List.set_cons_succ, List.getElem?_cons_zero, List.getElem?_cons_succ, Pyr.eqD_int, Pyr.eqD_str, Pyr.neD_int, Pyr.neD_str, if_true, if_false, Bool.not_true, Bool.not_false, Bool.false_eq_true, decide_true, decide_false, Pyr.run_atT0, Pyr.run_atT1, Pyr.run_atT2, Pyr.run_atT3, Pyr.run_atT4, Pyr.run_atL0, Pyr.run_atL1, Pyr.run_atL2, Pyr.run_atL3, Pyr.run_atL4, Pyr.isi_str_n, Pyr.isi_str_b, Pyr.isi_str_i, Pyr.isi_str_s, Pyr.isi_str_l, Pyr.isi_str_t, Pyr.isi_str_d, Pyr.isi_int_n, Pyr.isi_int_b, Pyr.isi_int_i, Pyr.isi_int_s, Pyr.isi_int_l, Pyr.isi_int_t, Pyr.isi_int_d, Pyr.isi_bool_n, Pyr.isi_bool_b, Pyr.isi_bool_i, Pyr.isi_bool_s, Pyr.isi_bool_l, Pyr.isi_bool_t, Pyr.isi_bool_d, Pyr.isi_list_n, Pyr.isi_list_b, Pyr.isi_list_i, Pyr.isi_list_s, Pyr.isi_list_l, Pyr.isi_list_t, Pyr.isi_list_d, Pyr.isi_tuple_n, Pyr.isi_tuple_b, Pyr.isi_tuple_i, Pyr.isi_tuple_s, Pyr.isi_tuple_l, Pyr.isi_tuple_t, Pyr.isi_tuple_d, Pyr.isi_dict_n, Pyr.isi_dict_b, Pyr.isi_dict_i, Pyr.isi_dict_s, Pyr.isi_dict_l, Pyr.isi_dict_t, Pyr.isi_dict_d, Nat.reduceAdd, Int.cast_ofNat_Int, Int.natCast_zero, Int.natCast_one, Int.reduceEq, Int.reduceLT, Int.reduceLE, Int.reduceAdd, Int.reduceSub, Int.reduceMul, Int.reduceNeg, Int.reduceNe, Nat.zero_add, reduceIte, decide_eq_true_eq, beq_self_eq_true, eq_self, Bool.true_or, Bool.or_true, Bool.and_true, Bool.true_and, Bool.false_or, Bool.or_false, Bool.and_false, Bool.false_and, ej, h9]
    · refine ⟨j, by omega, ?_⟩
      unfold T__law_pool_1 T__law_pool_2
      simp -implicitDefEqProofs (disch := omega) only [Pyr.run_flI, Pyr.run_flB, Pyr.run_flS, Pyr.run_flN, Pyr.sSeq, Pyr.sKill, Pyr.run_kill0, Pyr.run_killS, Pyr.sIf, Pyr.sSet, Pyr.sSetL, Pyr.sRet, Pyr.sRetL, Pyr.sRetN, Pyr.sRetO, Pyr.sDrop, Pyr.sApp, Pyr.sNext, Pyr.sFrz, Pyr.sSetT, Pyr.tgF, Pyr.setsF, Pyr.evP, Pyr.evL, Pyr.evT, Pyr.bare, Pyr.eC, Pyr.e1, Pyr.e2, Pyr.eN, Pyr.aC, Pyr.a0, Pyr.eIf, Pyr.eAnd, Pyr.eOr, Pyr.eNot, Pyr.eChain, Pyr.tE, Pyr.tNotR, Pyr.tAndR, Pyr.tOrR, Pyr.eCall, Pyr.lCall, Pyr.iF, Pyr.iF2, Pyr.lN, Pyr.lF, Pyr.eFs, Pyr.jC, Pyr.j0, Pyr.eIxV, Pyr.ownI, Pyr.lAdd, Pyr.sExt, Pyr.sPop, Pyr.trF, Pyr.trsF, Trs.len, Pyr.run_max2, Pyr.run_min2, Pyr.backD, Pyr.eSlice, Pyr.oNone, Pyr.oSome, Pyr.optI, Pyr.lSlice, Pyr.listD, eL, Pyr.eB, Pyr.oneD, Pyr.oneL, Pyr.itemsD, Pyr.outR, Pyr.ownD, Pyr.RV.d, Pyr.tupD, Pyr.run_mul, Pyr.run_mulS, Pyr.run_add, Pyr.run_sub, Pyr.run_addS, Pyr.run_mod, Pyr.run_fdiv, Pyr.run_lt, Pyr.run_le, Pyr.run_gt, Pyr.run_ge, Pyr.run_lenL, Pyr.run_lenT, Pyr.run_lenS, Pyr.run_int, Pyr.run_bool, Pyr.run_truB, Pyr.run_truL, Pyr.run_pur1, Pyr.run_frz1, Pyr.run_pSv, Pyr.run_pSo, Pyr.run_pSe, Pyr.run_fSv, Pyr.run_fSo, Pyr.run_fSe, Pyr.run_pur0, Pyr.run_frz0, Pyr.run_v0n, Pyr.run_v0b, Pyr.run_v0i, Pyr.run_v0s, Pyr.run_v0l, Pyr.run_v0t, Pyr.run_v0o, Pyr.run_vN, Pyr.run_vS, Pyr.run_bad, Pyr.run_exc, Pyr.run_map, Pyr.run_okL, List.length_cons, List.length_nil, Pyr.bind_ok, List.set_cons_zero, List.set_cons_succ, List.getElem?_cons_zero, List.getElem?_cons_succ, Pyr.eqD_int, Pyr.eqD_str, Pyr.neD_int, Pyr.neD_str, if_true, if_false, Bool.not_true, Bool.not_false, Bool.false_eq_true, decide_true, decide_false, Pyr.run_atT0, Pyr.run_atT1, Pyr.run_atT2, Pyr.run_atT3, Pyr.run_atT4, Pyr.run_atL0, Pyr.run_atL1, Pyr.run_atL2, Pyr.run_atL3, Pyr.run_atL4, Pyr.isi_str_n, Pyr.isi_str_b, Pyr.isi_str_i, Pyr.isi_str_s, Pyr.isi_str_l, Pyr.isi_str_t, Pyr.isi_str_d, Pyr.isi_int_n, Pyr.isi_int_b, Pyr.isi_int_i, Pyr.isi_int_s, Pyr.isi_int_l, Pyr.isi_int_t, Pyr.isi_int_d, Pyr.isi_bool_n, Pyr.isi_bool_b, Pyr.isi_bool_i, Pyr.isi_bool_s, Pyr.isi_bool_l, Pyr.isi_bool_t, Pyr.isi_bool_d, Pyr.isi_list_n, Pyr.isi_list_b, Pyr.isi_list_i, Pyr.isi_list_s, Pyr.isi_list_l, Pyr.isi_list_t, Pyr.isi_list_d, Pyr.isi_tuple_n, Pyr.isi_tuple_b, Pyr.isi_tuple_i, Pyr.isi_tuple_s, Pyr.isi_tuple_l, Pyr.isi_tuple_t, Pyr.isi_tuple_d, Pyr.isi_dict_n, Pyr.isi_dict_b, Pyr.isi_dict_i, Pyr.isi_dict_s, Pyr.isi_dict_l, Pyr.isi_dict_t, Pyr.isi_dict_d, Nat.reduceAdd, Int.cast_ofNat_Int, Int.natCast_zero, Int.natCast_one, Int.reduceEq, Int.reduceLT, Int.reduceLE, Int.reduceAdd, Int.reduceSub, Int.reduceMul, Int.reduceNeg, Int.reduceNe, Nat.zero_add, reduceIte, decide_eq_true_eq, beq_self_eq_true, eq_self, Bool.true_or, Bool.or_true, Bool.and_true, Bool.true_and, Bool.false_or, Bool.or_false, Bool.and_false, Bool.false_and, ej, h9]
  -- the text
  have hr : r1D (.int (s : Int)) = .ok ((List.range' 0 s).map fun k : Nat => .int (k : Int)) := (r1D_nat (by show _ ≤ 100000; omega)).trans (congrArg Res.ok (upto_map s 0))
  generalize hT : (List.range' 0 s).map (fun k : Nat => lc ((a + 7 * (k : Int) * (1 + b.fmod 3)).fmod 36).toNat) = T
  have lT : T.length = s := by rw [← hT, List.length_map, List.length_range']
  have inT : ∀ c ∈ T, c ∈ lets.cps.toList := fun c hc => by
    rw [← hT] at hc
    obtain ⟨k, _, rfl⟩ := List.mem_map.mp hc
    obtain ⟨j, e, h, _⟩ := let_at (a + 7 * (k : Int) * (1 + b.fmod 3))
    rw [e]
    exact lc_in h
  -- the place, the step
  obtain ⟨p, ep, hp⟩ := fmod_nat b (m := s + 1) (by omega)
  obtain ⟨q, eq, hq⟩ : ∃ q : Nat, 1 + 4 * (b.fdiv 4).fmod 2 = (q : Int) ∧ (q = 1 ∨ q = 5) := by
    have := fmod_in (b.fdiv 4) (m := 2) (by decide)
    exact ⟨(1 + 4 * (b.fdiv 4).fmod 2).toNat, by omega, by omega⟩
  generalize hW : (List.range' 0 m).map (fun k : Nat => ofL (T.take p ++ [lc ((b + q * (k : Int)).fmod 36).toNat] ++ T.drop p)) = ws
  have lW : ws.length = m := by rw [← hW, List.length_map, List.length_range']
  refine ⟨ws, ?_, lW, fun w hw => ?_, ?_, s + 1, fun w hw => ?_⟩
  · rw [u__law_pool]
    rw [defM_eq (np := 3) rfl]
    show outR (F__law_pool [.val (.int a), .val (.int b), .val (.int (m : Int)), .emp, .emp, .emp, .emp, .emp, .emp]) = _
    unfold F__law_pool
    rw [seq_ok (set_ok (d := .str lets) rfl)]
    show outR (T__law_pool_1 [.val (.int a), .val (.int b), .val (.int (m : Int)), .val (.str lets), .emp, .emp, .emp, .emp, .emp]) = _
    have es : T__law_pool_1 [.val (.int a), .val (.int b), .val (.int (m : Int)), .val (.str lets), .emp, .emp, .emp, .emp, .emp] = _ := es
    rw [es]
    unfold T__law_pool_3
    rw [seq_ok (set_ok (d := .str (ofL T)) ?_)]
    · unfold T__law_pool_4
      rw [seq_ok (ρ' := [.val (.int a), .val (.int b), .val (.int (m : Int)), .val (.str lets), .val (.int (s : Int)), .val (.str (ofL T)), .val (.int (p : Int)), .emp, .emp]) (by
        have ep : b.fmod ((s : Int) + 1) = (p : Int) := ep
        simp -implicitDefEqProofs (disch := omega) only [Pyr.run_flI, Pyr.run_flB, Pyr.run_flS, Pyr.run_flN, Pyr.sSeq, Pyr.sKill, Pyr.run_kill0, Pyr.run_killS, Pyr.sIf, Pyr.sSet, Pyr.sSetL, Pyr.sRet, Pyr.sRetL, Pyr.sRetN, Pyr.sRetO, Pyr.sDrop, Pyr.sApp, Pyr.sNext, Pyr.sFrz, Pyr.sSetT, Pyr.tgF, Pyr.setsF, Pyr.evP, Pyr.evL, Pyr.evT, Pyr.bare, Pyr.eC, Pyr.e1, Pyr.e2, Pyr.eN, Pyr.aC, Pyr.a0, Pyr.eIf, Pyr.eAnd, Pyr.eOr, Pyr.eNot, Pyr.eChain, Pyr.tE, Pyr.tNotR, Pyr.tAndR, Pyr.tOrR, Pyr.eCall, Pyr.lCall, Pyr.iF, Pyr.iF2, Pyr.lN, Pyr.lF, Pyr.eFs, Pyr.jC, Pyr.j0, Pyr.eIxV, Pyr.ownI, Pyr.lAdd, Pyr.sExt, Pyr.sPop, Pyr.trF, Pyr.trsF, Trs.len, Pyr.run_max2, Pyr.run_min2, Pyr.backD, Pyr.eSlice, Pyr.oNone, Pyr.oSome, Pyr.optI, Pyr.lSlice, Pyr.listD, eL, Pyr.eB, Pyr.oneD, Pyr.oneL, Pyr.itemsD, Pyr.outR, Pyr.ownD, Pyr.RV.d, Pyr.tupD, Pyr.run_mul, Pyr.run_mulS, Pyr.run_add, Pyr.run_sub, Pyr.run_addS, Pyr.run_mod, Pyr.run_fdiv, Pyr.run_lt, Pyr.run_le, Pyr.run_gt, Pyr.run_ge, Pyr.run_lenL, Pyr.run_lenT, Pyr.run_lenS, Pyr.run_int, Pyr.run_bool, Pyr.run_truB, Pyr.run_truL, Pyr.run_pur1, Pyr.run_frz1, Pyr.run_pSv, Pyr.run_pSo, Pyr.run_pSe, Pyr.run_fSv, Pyr.run_fSo, Pyr.run_fSe, Pyr.run_pur0, Pyr.run_frz0, Pyr.run_v0n, Pyr.run_v0b, Pyr.run_v0i, Pyr.run_v0s, Pyr.run_v0l, Pyr.run_v0t, Pyr.run_v0o, Pyr.run_vN, Pyr.run_vS, Pyr.run_bad, Pyr.run_exc, Pyr.run_map, Pyr.run_okL, List.length_cons, List.length_nil, Pyr.bind_ok, List.set_cons_zero, List.set_cons_succ, List.getElem?_cons_zero, List.getElem?_cons_succ, Pyr.eqD_int, Pyr.eqD_str, Pyr.neD_int, Pyr.neD_str, if_true, if_false, Bool.not_true, Bool.not_false, Bool.false_eq_true, decide_true, decide_false, Pyr.run_atT0, Pyr.run_atT1, Pyr.run_atT2, Pyr.run_atT3, Pyr.run_atT4, Pyr.run_atL0, Pyr.run_atL1, Pyr.run_atL2, Pyr.run_atL3, Pyr.run_atL4, Pyr.isi_str_n, Pyr.isi_str_b, Pyr.isi_str_i, Pyr.isi_str_s, Pyr.isi_str_l, Pyr.isi_str_t, Pyr.isi_str_d, Pyr.isi_int_n, Pyr.isi_int_b, Pyr.isi_int_i, Pyr.isi_int_s, Pyr.isi_int_l, Pyr.isi_int_t, Pyr.isi_int_d, Pyr.isi_bool_n, Pyr.isi_bool_b, Pyr.isi_bool_i, Pyr.isi_bool_s, Pyr.isi_bool_l, Pyr.isi_bool_t, Pyr.isi_bool_d, Pyr.isi_list_n, Pyr.isi_list_b, Pyr.isi_list_i, Pyr.isi_list_s, Pyr.isi_list_l, Pyr.isi_list_t, Pyr.isi_list_d, Pyr.isi_tuple_n, Pyr.isi_tuple_b, Pyr.isi_tuple_i, Pyr.isi_tuple_s, Pyr.isi_tuple_l, Pyr.isi_tuple_t, Pyr.isi_tuple_d, Pyr.isi_dict_n, Pyr.isi_dict_b, Pyr.isi_dict_i, Pyr.isi_dict_s, Pyr.isi_dict_l, Pyr.isi_dict_t, Pyr.isi_dict_d, Nat.reduceAdd, Int.cast_ofNat_Int, Int.natCast_zero, Int.natCast_one, Int.reduceEq, Int.reduceLT, Int.reduceLE, Int.reduceAdd, Int.reduceSub, Int.reduceMul, Int.reduceNeg, Int.reduceNe, Nat.zero_add, reduceIte, decide_eq_true_eq, beq_self_eq_true, eq_self, Bool.true_or, Bool.or_true, Bool.and_true, Bool.true_and, Bool.false_or, Bool.or_false, Bool.and_false, Bool.false_and, ep])]
      unfold T__law_pool_5
      rw [seq_ok (ρ' := [.val (.int a), .val (.int b), .val (.int (m : Int)), .val (.str lets), .val (.int (s : Int)), .val (.str (ofL T)), .val (.int (p : Int)), .val (.int (q : Int)), .emp]) (by simp -implicitDefEqProofs (disch := omega) only [Pyr.run_flI, Pyr.run_flB, Pyr.run_flS, Pyr.run_flN, Pyr.sSeq, Pyr.sKill, Pyr.run_kill0, Pyr.run_killS, Pyr.sIf, Pyr.sSet, Pyr.sSetL, Pyr.sRet, Pyr.sRetL, Pyr.sRetN, Pyr.sRetO, Pyr.sDrop, Pyr.sApp, Pyr.sNext, Pyr.sFrz, Pyr.sSetT, Pyr.tgF, Pyr.setsF, Pyr.evP, Pyr.evL, Pyr.evT, Pyr.bare, Pyr.eC, Pyr.e1, Pyr.e2, Pyr.eN, Pyr.aC, Pyr.a0, Pyr.eIf, Pyr.eAnd, Pyr.eOr, Pyr.eNot, Pyr.eChain, Pyr.tE, Pyr.tNotR, Pyr.tAndR, Pyr.tOrR, Pyr.eCall, Pyr.lCall, Pyr.iF, Pyr.iF2, Pyr.lN, Pyr.lF, Pyr.eFs, Pyr.jC, Pyr.j0, Pyr.eIxV, Pyr.ownI, Pyr.lAdd, Pyr.sExt, Pyr.sPop, Pyr.trF, Pyr.trsF, Trs.len, Pyr.run_max2, Pyr.run_min2, Pyr.backD, Pyr.eSlice, Pyr.oNone, Pyr.oSome, Pyr.optI, Pyr.lSlice, Pyr.listD, eL, Pyr.eB, Pyr.oneD, Pyr.oneL, Pyr.itemsD, Pyr.outR, Pyr.ownD, Pyr.RV.d, Pyr.tupD, Pyr.run_mul, Pyr.run_mulS, Pyr.run_add, Pyr.run_sub, Pyr.run_addS, Pyr.run_mod, Pyr.run_fdiv, Pyr.run_lt, Pyr.run_le, Pyr.run_gt, Pyr.run_ge, Pyr.run_lenL, Pyr.run_lenT, Pyr.run_lenS, Pyr.run_int, Pyr.run_bool, Pyr.run_truB, Pyr.run_truL, Pyr.run_pur1, Pyr.run_frz1, Pyr.run_pSv, Pyr.run_pSo, Pyr.run_pSe, Pyr.run_fSv, Pyr.run_fSo, Pyr.run_fSe, Pyr.run_pur0, Pyr.run_frz0, Pyr.run_v0n, Pyr.run_v0b, Pyr.run_v0i, Pyr.run_v0s, Pyr.run_v0l, Pyr.run_v0t, Pyr.run_v0o, Pyr.run_vN, Pyr.run_vS, Pyr.run_bad, Pyr.run_exc, Pyr.run_map, Pyr.run_okL, List.length_cons, List.length_nil, Pyr.bind_ok, List.set_cons_zero, List.set_cons_succ, List.getElem?_cons_zero, List.getElem?_cons_succ, Pyr.eqD_int, Pyr.eqD_str, Pyr.neD_int, Pyr.neD_str, if_true, if_false, Bool.not_true, Bool.not_false, Bool.false_eq_true, decide_true, decide_false, Pyr.run_atT0, Pyr.run_atT1, Pyr.run_atT2, Pyr.run_atT3, Pyr.run_atT4, Pyr.run_atL0, Pyr.run_atL1, Pyr.run_atL2, Pyr.run_atL3, Pyr.run_atL4, Pyr.isi_str_n, Pyr.isi_str_b, Pyr.isi_str_i, Pyr.isi_str_s, Pyr.isi_str_l, Pyr.isi_str_t, Pyr.isi_str_d, Pyr.isi_int_n, Pyr.isi_int_b, Pyr.isi_int_i, Pyr.isi_int_s, Pyr.isi_int_l, Pyr.isi_int_t, Pyr.isi_int_d, Pyr.isi_bool_n, Pyr.isi_bool_b, Pyr.isi_bool_i, Pyr.isi_bool_s, Pyr.isi_bool_l, Pyr.isi_bool_t, Pyr.isi_bool_d, Pyr.isi_list_n, Pyr.isi_list_b, Pyr.isi_list_i, Pyr.isi_list_s, Pyr.isi_list_l, Pyr.isi_list_t, Pyr.isi_list_d, Pyr.isi_tuple_n, Pyr.isi_tuple_b, Pyr.isi_tuple_i, Pyr.isi_tuple_s, Pyr.isi_tuple_l, Pyr.isi_tuple_t, Pyr.isi_tuple_d, Pyr.isi_dict_n, Pyr.isi_dict_b, Pyr.isi_dict_i, Pyr.isi_dict_s, Pyr.isi_dict_l, Pyr.isi_dict_t, Pyr.isi_dict_d, Nat.reduceAdd, Int.cast_ofNat_Int, Int.natCast_zero, Int.natCast_one, Int.reduceEq, Int.reduceLT, Int.reduceLE, Int.reduceAdd, Int.reduceSub, Int.reduceMul, Int.reduceNeg, Int.reduceNe, Nat.zero_add, reduceIte, decide_eq_true_eq, beq_self_eq_true, eq_self, Bool.true_or, Bool.or_true, Bool.and_true, Bool.true_and, Bool.false_or, Bool.or_false, Bool.and_false, Bool.false_and, eq])]
      unfold T__law_pool_6
      have hr2 : r1D (.int (m : Int)) = .ok ((List.range' 0 m).map fun k : Nat => .int (k : Int)) := (r1D_nat (by show _ ≤ 100000; omega)).trans (congrArg Res.ok (upto_map m 0))
      rw [retL_ok (ds := ws.map .str)]
      · rfl
      · refine lComp_ok ((iF_ok (x := .int (m : Int)) rfl).trans hr2) (by rw [List.length_map, List.length_range']; omega) ?_
        rw [← hW, List.map_map]
        refine compF_en _ _ _ fun k hk => ⟨_, rfl, rfl, ?_⟩
        obtain ⟨j, e, h, at'⟩ := let_at (b + q * (k : Int))
        have hk := (List.mem_range'_1.mp hk).2
        rw [e] at at'
        have l1 : (ofL T).length = s := by rw [ofL_len, lT]
        have l2 : (cutS (ofL T) none (some (p : Int))).length ≤ 11 := by rw [tl_len, cut_front, ofL_tl, List.length_take]; omega
        have l3 : (cutS (ofL T) (some (p : Int)) none).length ≤ 11 := by rw [tl_len, cut_back, ofL_tl, List.length_drop]; omega
        have l4 : (ofL [lc j]).length = 1 := rfl
        have sl : ∀ lo hi, sliceD (.str (ofL T)) lo hi = .ok (.str (cutS (ofL T) lo hi)) := fun lo hi => okL_ok (by rw [l1]; show _ ≤ 100000; omega)
        have ee : cutS (ofL T) none (some (p : Int)) ++ ofL [lc j] ++ cutS (ofL T) (some (p : Int)) none = ofL (T.take p ++ [lc j] ++ T.drop p) := str_eq (by
          have a1 : ∀ x y : Str, (x ++ y).cps.toList = x.cps.toList ++ y.cps.toList := fun x y => TL.tl_append x y
          rw [a1, a1, cut_front, cut_back, ofL_tl, ofL_tl, ofL_tl])
        simp -implicitDefEqProofs (disch := first | omega | (simp only [Pyr.app_len]; omega)) only [Pyr.run_flI, Pyr.run_flB, Pyr.run_flS, Pyr.run_flN, Pyr.sSeq, Pyr.sKill, Pyr.run_kill0, Pyr.run_killS, Pyr.sIf, Pyr.sSet, Pyr.sSetL, Pyr.sRet, Pyr.sRetL, Pyr.sRetN, Pyr.sRetO, Pyr.sDrop, Pyr.sApp, Pyr.sNext, Pyr.sFrz, Pyr.sSetT, Pyr.tgF, Pyr.setsF, Pyr.evP, Pyr.evL, Pyr.evT, Pyr.bare, Pyr.eC, Pyr.e1, Pyr.e2, Pyr.eN, Pyr.aC, Pyr.a0, Pyr.eIf, Pyr.eAnd, Pyr.eOr, Pyr.eNot, Pyr.eChain, Pyr.tE, Pyr.tNotR, Pyr.tAndR, Pyr.tOrR, Pyr.eCall, Pyr.lCall, Pyr.iF, Pyr.iF2, Pyr.lN, Pyr.lF, Pyr.eFs, Pyr.jC, Pyr.j0, Pyr.eIxV, Pyr.ownI, Pyr.lAdd, Pyr.sExt, Pyr.sPop, Pyr.trF, Pyr.trsF, Trs.len, Pyr.run_max2, Pyr.run_min2, Pyr.backD, Pyr.eSlice, Pyr.oNone, Pyr.oSome, Pyr.optI, Pyr.lSlice, Pyr.listD, eL, Pyr.eB, Pyr.oneD, Pyr.oneL, Pyr.itemsD, Pyr.outR, Pyr.ownD, Pyr.RV.d, Pyr.tupD, Pyr.run_mul, Pyr.run_mulS, Pyr.run_add, Pyr.run_sub, Pyr.run_addS, Pyr.run_mod, Pyr.run_fdiv, Pyr.run_lt, Pyr.run_le, Pyr.run_gt, Pyr.run_ge, Pyr.run_lenL, Pyr.run_lenT, Pyr.run_lenS, Pyr.run_int, Pyr.run_bool, Pyr.run_truB, Pyr.run_truL, Pyr.run_pur1, Pyr.run_frz1, Pyr.run_pSv, Pyr.run_pSo, Pyr.run_pSe, Pyr.run_fSv, Pyr.run_fSo, Pyr.run_fSe, Pyr.run_pur0, Pyr.run_frz0, Pyr.run_v0n, Pyr.run_v0b, Pyr.run_v0i, Pyr.run_v0s, Pyr.run_v0l, Pyr.run_v0t, Pyr.run_v0o, Pyr.run_vN, Pyr.run_vS, Pyr.run_bad, Pyr.run_exc, Pyr.run_map, Pyr.run_okL, List.length_cons, List.length_nil, Pyr.bind_ok, List.set_cons_zero, List.set_cons_succ, List.getElem?_cons_zero, List.getElem?_cons_succ, Pyr.eqD_int, Pyr.eqD_str, Pyr.neD_int, Pyr.neD_str, if_true, if_false, Bool.not_true, Bool.not_false, Bool.false_eq_true, decide_true, decide_false, Pyr.run_atT0, Pyr.run_atT1, Pyr.run_atT2, Pyr.run_atT3, Pyr.run_atT4, Pyr.run_atL0, Pyr.run_atL1, Pyr.run_atL2, Pyr.run_atL3, Pyr.run_atL4, Pyr.isi_str_n, Pyr.isi_str_b, Pyr.isi_str_i, Pyr.isi_str_s, Pyr.isi_str_l, Pyr.isi_str_t, Pyr.isi_str_d, Pyr.isi_int_n, Pyr.isi_int_b, Pyr.isi_int_i, Pyr.isi_int_s, Pyr.isi_int_l, Pyr.isi_int_t, Pyr.isi_int_d, Pyr.isi_bool_n, Pyr.isi_bool_b, Pyr.isi_bool_i, Pyr.isi_bool_s, Pyr.isi_bool_l, Pyr.isi_bool_t, Pyr.isi_bool_d, Pyr.isi_list_n, Pyr.isi_list_b, Pyr.isi_list_i, Pyr.isi_list_s, Pyr.isi_list_l, Pyr.isi_list_t, Pyr.isi_list_d, Pyr.isi_tuple_n, Pyr.isi_tuple_b, Pyr.isi_tuple_i, Pyr.isi_tuple_s, Pyr.isi_tuple_l, Pyr.isi_tuple_t, Pyr.isi_tuple_d, Pyr.isi_dict_n, Pyr.isi_dict_b, Pyr.isi_dict_i, Pyr.isi_dict_s, Pyr.isi_dict_l, Pyr.isi_dict_t, Pyr.isi_dict_d, Nat.reduceAdd, Int.cast_ofNat_Int, Int.natCast_zero, Int.natCast_one, Int.reduceEq, Int.reduceLT, Int.reduceLE, Int.reduceAdd, Int.reduceSub, Int.reduceMul, Int.reduceNeg, Int.reduceNe, Nat.zero_add, reduceIte, decide_eq_true_eq, beq_self_eq_true, eq_self, Bool.true_or, Bool.or_true, Bool.and_true, Bool.true_and, Bool.false_or, Bool.or_false, Bool.and_false, Bool.false_and, e, at', wipeE, tgE, sl, optI, l2, l3, l4, ee, Int.toNat_natCast, Function.comp]
    · refine eJoin_ok rfl (mapL_ok (lComp_ok ((iF_ok (x := .int (s : Int)) rfl).trans hr) (by rw [List.length_map, List.length_range']; omega) (compF_en _ (fun k : Nat => .str (ofL [lc ((a + 7 * (k : Int) * (1 + b.fmod 3)).fmod 36).toNat])) _ fun k hk => ⟨_, rfl, rfl, ?_⟩))) ?_
      · obtain ⟨j, e, h, q⟩ := let_at (a + 7 * (k : Int) * (1 + b.fmod 3))
        have hk := (List.mem_range'_1.mp hk).2
        have b3 := fmod_in b (m := 3) (by decide)
        rw [e] at q ⊢
        simp -implicitDefEqProofs (disch := omega) only [Pyr.run_flI, Pyr.run_flB, Pyr.run_flS, Pyr.run_flN, Pyr.sSeq, Pyr.sKill, Pyr.run_kill0, Pyr.run_killS, Pyr.sIf, Pyr.sSet, Pyr.sSetL, Pyr.sRet, Pyr.sRetL, Pyr.sRetN, Pyr.sRetO, Pyr.sDrop, Pyr.sApp, Pyr.sNext, Pyr.sFrz, Pyr.sSetT, Pyr.tgF, Pyr.setsF, Pyr.evP, Pyr.evL, Pyr.evT, Pyr.bare, Pyr.eC, Pyr.e1, Pyr.e2, Pyr.eN, Pyr.aC, Pyr.a0, Pyr.eIf, Pyr.eAnd, Pyr.eOr, Pyr.eNot, Pyr.eChain, Pyr.tE, Pyr.tNotR, Pyr.tAndR, Pyr.tOrR, Pyr.eCall, Pyr.lCall, Pyr.iF, Pyr.iF2, Pyr.lN, Pyr.lF, Pyr.eFs, Pyr.jC, Pyr.j0, Pyr.eIxV, Pyr.ownI, Pyr.lAdd, Pyr.sExt, Pyr.sPop, Pyr.trF, Pyr.trsF, Trs.len, Pyr.run_max2, Pyr.run_min2, Pyr.backD, Pyr.eSlice, Pyr.oNone, Pyr.oSome, Pyr.optI, Pyr.lSlice, Pyr.listD, eL, Pyr.eB, Pyr.oneD, Pyr.oneL, Pyr.itemsD, Pyr.outR, Pyr.ownD, Pyr.RV.d, Pyr.tupD, Pyr.run_mul, Pyr.run_mulS, Pyr.run_add, Pyr.run_sub, Pyr.run_addS, Pyr.run_mod, Pyr.run_fdiv, Pyr.run_lt, Pyr.run_le, Pyr.run_gt, Pyr.run_ge, Pyr.run_lenL, Pyr.run_lenT, Pyr.run_lenS, Pyr.run_int, Pyr.run_bool, Pyr.run_truB, Pyr.run_truL, Pyr.run_pur1, Pyr.run_frz1, Pyr.run_pSv, Pyr.run_pSo, Pyr.run_pSe, Pyr.run_fSv, Pyr.run_fSo, Pyr.run_fSe, Pyr.run_pur0, Pyr.run_frz0, Pyr.run_v0n, Pyr.run_v0b, Pyr.run_v0i, Pyr.run_v0s, Pyr.run_v0l, Pyr.run_v0t, Pyr.run_v0o, Pyr.run_vN, Pyr.run_vS, Pyr.run_bad, Pyr.run_exc, Pyr.run_map, Pyr.run_okL, List.length_cons, List.length_nil, Pyr.bind_ok, List.set_cons_zero, List.set_cons_succ, List.getElem?_cons_zero, List.getElem?_cons_succ, Pyr.eqD_int, Pyr.eqD_str, Pyr.neD_int, Pyr.neD_str, if_true, if_false, Bool.not_true, Bool.not_false, Bool.false_eq_true, decide_true, decide_false, Pyr.run_atT0, Pyr.run_atT1, Pyr.run_atT2, Pyr.run_atT3, Pyr.run_atT4, Pyr.run_atL0, Pyr.run_atL1, Pyr.run_atL2, Pyr.run_atL3, Pyr.run_atL4, Pyr.isi_str_n, Pyr.isi_str_b, Pyr.isi_str_i, Pyr.isi_str_s, Pyr.isi_str_l, Pyr.isi_str_t, Pyr.isi_str_d, Pyr.isi_int_n, Pyr.isi_int_b, Pyr.isi_int_i, Pyr.isi_int_s, Pyr.isi_int_l, Pyr.isi_int_t, Pyr.isi_int_d, Pyr.isi_bool_n, Pyr.isi_bool_b, Pyr.isi_bool_i, Pyr.isi_bool_s, Pyr.isi_bool_l, Pyr.isi_bool_t, Pyr.isi_bool_d, Pyr.isi_list_n, Pyr.isi_list_b, Pyr.isi_list_i, Pyr.isi_list_s, Pyr.isi_list_l, Pyr.isi_list_t, Pyr.isi_list_d, Pyr.isi_tuple_n, Pyr.isi_tuple_b, Pyr.isi_tuple_i, Pyr.isi_tuple_s, Pyr.isi_tuple_l, Pyr.isi_tuple_t, Pyr.isi_tuple_d, Pyr.isi_dict_n, Pyr.isi_dict_b, Pyr.isi_dict_i, Pyr.isi_dict_s, Pyr.isi_dict_l, Pyr.isi_dict_t, Pyr.isi_dict_d, Nat.reduceAdd, Int.cast_ofNat_Int, Int.natCast_zero, Int.natCast_one, Int.reduceEq, Int.reduceLT, Int.reduceLE, Int.reduceAdd, Int.reduceSub, Int.reduceMul, Int.reduceNeg, Int.reduceNe, Nat.zero_add, reduceIte, decide_eq_true_eq, beq_self_eq_true, eq_self, Bool.true_or, Bool.or_true, Bool.and_true, Bool.true_and, Bool.false_or, Bool.or_false, Bool.and_false, Bool.false_and, e, q, wipeE, tgE, Int.toNat_natCast]
      · have : joinD ("" : Str) (.list (T.map fun c => .str (ofL [c]))) = .ok (.str (ofL T)) := joinD_chars T (by omega)
        rw [← hT, List.map_map] at this
        rw [← hT]
        exact this
  · rw [← hW] at hw
    obtain ⟨k, _, rfl⟩ := List.mem_map.mp hw
    obtain ⟨j, e, h, _⟩ := let_at (b + q * (k : Int))
    rw [e, Int.toNat_natCast]
    refine ⟨?_, ?_, fun c hc => ?_⟩
    · rw [ofL_len, List.length_append, List.length_append]
      simp only [List.length_cons, List.length_nil]
      omega
    · rw [ofL_len, List.length_append, List.length_append, List.length_take, List.length_drop]
      simp only [List.length_cons, List.length_nil]
      omega
    · rw [ofL_tl] at hc
      rcases List.mem_append.mp hc with hc | hc
      · rcases List.mem_append.mp hc with hc | hc
        · exact inT c (List.mem_of_mem_take hc)
        · rw [List.mem_singleton.mp hc]
          exact lc_in h
      · exact inT c (List.mem_of_mem_drop hc)
  · rw [← hW]
    refine List.Pairwise.map _ (fun i k (hik : i < k ∧ k < 20) z => ?_) (R := fun i k : Nat => i < k ∧ k < 20) ?_
    · have z := congrArg (fun x : Str => x.cps.toList) z
      simp only [ofL_tl, List.append_assoc] at z
      have z := List.append_cancel_left z
      obtain ⟨ji, ei, hi, _⟩ := let_at (b + q * (i : Int))
      obtain ⟨jk, ek, hk, _⟩ := let_at (b + q * (k : Int))
      rw [ei, ek, Int.toNat_natCast, Int.toNat_natCast] at z
      have := lc_inj hi hk (List.cons.inj (show lc ji :: _ = lc jk :: _ from z)).1
      subst this
      have d1 := Int.fmod_add_mul_fdiv (b + q * (i : Int)) 36
      have d2 := Int.fmod_add_mul_fdiv (b + q * (k : Int)) 36
      generalize (b + q * (i : Int)).fdiv 36 = u at d1
      generalize (b + q * (k : Int)).fdiv 36 = v at d2
      rcases hq with rfl | rfl <;> omega
    · refine List.Pairwise.imp_of_mem (fun {i k} hi hk h => ⟨h, by have := (List.mem_range'_1.mp hk).2; omega⟩) List.pairwise_lt_range'
  · rw [← hW] at hw
    obtain ⟨k, _, rfl⟩ := List.mem_map.mp hw
    rw [ofL_len, List.length_append, List.length_append, List.length_take, List.length_drop]
    simp only [List.length_cons, List.length_nil]
    omega
theorem pool_run2 (a b : Int) (m : Nat) (hm : m ≤ 20) (ha : 0 ≤ a ∧ a < 1000) (hb : 0 ≤ b ∧ b < 1000) :
    ∃ ws : List Str, m__law_pool [.int a, .int b, .int (m : Int)] = .ok (.own (ws.map .str)) ∧ ws.length = m ∧ (∀ w ∈ ws, Wd w) ∧ ws.Nodup ∧ ∃ n, ∀ w ∈ ws, w.length = n := pool_run3 a b m hm ha ⟨hb.1, by omega⟩
theorem pool_run (a b : Int) (m : Nat) (hm : m ≤ 20) (ha : 0 ≤ a ∧ a < 1000) (hb : 0 ≤ b ∧ b < 1000) :
    ∃ ws : List Str, m__law_pool [.int a, .int b, .int (m : Int)] = .ok (.own (ws.map .str)) ∧ ws.length = m ∧ (∀ w ∈ ws, Wd w) ∧ ws.Nodup :=
  let ⟨ws, h1, h2, h3, h4, _⟩ := pool_run2 a b m hm ha hb
  ⟨ws, h1, h2, h3, h4⟩
end
end Com2

set_option Elab.async false
set_option autoImplicit false
set_option linter.all false
set_option maxRecDepth 100000
set_option maxHeartbeats 2000000
/-! data without truth values: equality, order -/
namespace Pyr
open PySem PySem.Spec PyProof.Rows L2 Evl
mutual
def noB : D → Bool
  | .none => true
  | .bool _ => false
  | .int _ => true
  | .str _ => true
  | .list ds => noBs ds
  | .tuple ds => noBs ds
  | .dict _ => false
def noBs : List D → Bool
  | [] => true
  | d :: ds => noB d && noBs ds
end
mutual
theorem eqv_iff : ∀ x y : D, noB x = true → noB y = true → (PyData.eqv x y = true ↔ x = y)
  | .none, y, _, hy => by cases y <;> simp [PyData.eqv]
  | .bool _, _, hx, _ => by simp [noB] at hx
  | .int i, y, _, hy => by cases y <;> simp [PyData.eqv] <;> simp [noB] at hy
  | .str a, y, _, hy => by cases y <;> simp [PyData.eqv]
  | .list xs, y, hx, hy => by
    cases y with
    | list ys =>
      have := eqvs_iff xs ys (by simpa [noB] using hx) (by simpa [noB] using hy)
      simpa [PyData.eqv] using this
    | _ => simp [PyData.eqv]
  | .tuple xs, y, hx, hy => by
    cases y with
    | tuple ys =>
      have := eqvs_iff xs ys (by simpa [noB] using hx) (by simpa [noB] using hy)
      simpa [PyData.eqv] using this
    | _ => simp [PyData.eqv]
  | .dict _, _, hx, _ => by simp [noB] at hx
theorem eqvs_iff : ∀ xs ys : List D, noBs xs = true → noBs ys = true → (PyData.eqvAll xs ys = true ↔ xs = ys)
  | [], [], _, _ => by simp [PyData.eqvAll]
  | [], _ :: _, _, _ => by simp [PyData.eqvAll]
  | _ :: _, [], _, _ => by simp [PyData.eqvAll]
  | x :: xs, y :: ys, hx, hy => by
    rw [noBs, Bool.and_eq_true] at hx hy
    rw [PyData.eqvAll, Bool.and_eq_true, eqv_iff x y hx.1 hy.1, eqvs_iff xs ys hx.2 hy.2, List.cons.injEq]
end
theorem noBs_all : ∀ {ds : List D}, (∀ d ∈ ds, noB d = true) → noBs ds = true
  | [], _ => rfl
  | d :: ds, h => by rw [noBs, h d List.mem_cons_self, noBs_all fun e he => h e (List.mem_cons_of_mem _ he)]; rfl
theorem noB_strs (r : List Str) : noB (.tuple (r.map .str)) = true := by
  show noBs (r.map .str) = true
  refine noBs_all fun d hd => ?_
  obtain ⟨x, _, rfl⟩ := List.mem_map.mp hd
  rfl
/-- a coding of things as data: one to one, without truth values, of depth at most 50 -/
structure Enc {α : Type} (en : α → D) (ok : α → Prop) : Prop where
  inj : ∀ x y, en x = en y → x = y
  nb : ∀ x, noB (en x) = true
  fd : ∀ x, ok x → fD 50 (en x) = true
section
variable {α : Type} {en : α → D} {ok : α → Prop} (E : Enc en ok)
include E
theorem Enc.eqv (x y : α) [Decidable (x = y)] : PyData.eqv (en x) (en y) = decide (x = y) := by
  rw [Bool.eq_iff_iff, eqv_iff _ _ (E.nb x) (E.nb y), decide_eq_true_eq]
  exact ⟨fun h => E.inj x y h, fun h => by rw [h]⟩
theorem Enc.okd {x : α} (h : ok x) : okd (en x) = true := fD_okd (E.fd x h) (by decide)
theorem Enc.okl {xs : List α} (h : ∀ x ∈ xs, ok x) : Pyr.okd (.list (xs.map en)) = true := by
  refine fD_okd (n := 51) ?_ (by decide)
  show fDs 50 (xs.map en) = true
  refine fDs_all fun d hd => ?_
  obtain ⟨x, hx, rfl⟩ := List.mem_map.mp hd
  exact E.fd x (h x hx)
theorem Enc.eqD {x y : α} [Decidable (x = y)] (hx : ok x) (hy : ok y) : Pyr.eqD (en x) (en y) = .ok (.bool (decide (x = y))) := by
  unfold Pyr.eqD
  rw [E.okd hx, E.okd hy, E.eqv]
  simp
theorem Enc.neD {x y : α} [Decidable (x = y)] (hx : ok x) (hy : ok y) : Pyr.neD (en x) (en y) = .ok (.bool (!decide (x = y))) := by
  unfold Pyr.neD
  rw [E.okd hx, E.okd hy, E.eqv]
  simp
theorem Enc.any (xs : List α) (y : α) [Decidable (y ∈ xs)] : (xs.map en).any (fun z => PyData.eqv z (en y)) = decide (y ∈ xs) := by
  rw [Bool.eq_iff_iff, List.any_eq_true, decide_eq_true_eq]
  constructor
  · rintro ⟨d, hd, h⟩
    obtain ⟨x, hx, rfl⟩ := List.mem_map.mp hd
    have h := E.inj _ _ ((eqv_iff _ _ (E.nb x) (E.nb y)).mp h)
    exact h ▸ hx
  · intro h
    exact ⟨en y, List.mem_map.mpr ⟨y, h, rfl⟩, (eqv_iff _ _ (E.nb y) (E.nb y)).mpr rfl⟩
theorem Enc.inD {xs : List α} {y : α} [Decidable (y ∈ xs)] (hxs : ∀ x ∈ xs, ok x) (hy : ok y) : Pyr.inD (en y) (.list (xs.map en)) = .ok (.bool (decide (y ∈ xs))) := by
  have e : Pyr.inD (en y) (.list (xs.map en)) = if Pyr.okd (en y) && Pyr.okd (.list (xs.map en)) then .ok (.bool ((xs.map en).any fun z => PyData.eqv z (en y))) else .bad := by cases en y <;> rfl
  rw [e, E.okd hy, E.okl hxs, E.any]
  rfl
theorem Enc.notInD {xs : List α} {y : α} [Decidable (y ∈ xs)] (hxs : ∀ x ∈ xs, ok x) (hy : ok y) : Pyr.notInD (en y) (.list (xs.map en)) = .ok (.bool (!decide (y ∈ xs))) := by
  unfold Pyr.notInD
  rw [E.inD hxs hy]
  rfl
theorem Enc.mapInj {xs ys : List α} (h : xs.map en = ys.map en) : xs = ys := List.map_inj_right (fun a b => E.inj a b) |>.mp h
/-- lists of such -/
theorem Enc.eqL {xs ys : List α} [Decidable (xs = ys)] (hx : ∀ x ∈ xs, ok x) (hy : ∀ y ∈ ys, ok y) : Pyr.eqD (.list (xs.map en)) (.list (ys.map en)) = .ok (.bool (decide (xs = ys))) := by
  have nb : ∀ zs : List α, noB (.list (zs.map en)) = true := fun zs => by
    show noBs (zs.map en) = true
    refine noBs_all fun d hd => ?_
    obtain ⟨x, _, rfl⟩ := List.mem_map.mp hd
    exact E.nb x
  have q : PyData.eqv (.list (xs.map en)) (.list (ys.map en)) = decide (xs = ys) := by
    rw [Bool.eq_iff_iff, eqv_iff _ _ (nb xs) (nb ys), decide_eq_true_eq]
    exact ⟨fun h => E.mapInj (by injection h), fun h => by rw [h]⟩
  unfold Pyr.eqD
  rw [E.okl hx, E.okl hy, q]
  simp
theorem Enc.neL {xs ys : List α} [Decidable (xs = ys)] (hx : ∀ x ∈ xs, ok x) (hy : ∀ y ∈ ys, ok y) : Pyr.neD (.list (xs.map en)) (.list (ys.map en)) = .ok (.bool (!decide (xs = ys))) := by
  have h := E.eqL hx hy
  unfold Pyr.eqD at h
  unfold Pyr.neD
  split at h
  · rename_i c
    rw [if_pos c]
    have h := Res.ok.inj h
    injection h with h
    rw [h]
  · cases h
end
/-! ### order -/
abbrev dlt (x y : D) : Bool := PySem.W.dataLt x y
theorem dlt_irrefl (x : D) : dlt x x = false := PyProof.Rows.lex_irrefl _
theorem dlt_trans {x y z : D} (h : dlt x y = true) (h2 : dlt y z = true) : dlt x z = true := PyProof.Rows.lex_trans _ _ _ h h2
theorem dle_iff (x y : D) : PySem.W.dataLe false id x y = !dlt y x := rfl
theorem dle_trans (x y z : D) (h : PySem.W.dataLe false id x y = true) (h2 : PySem.W.dataLe false id y z = true) : PySem.W.dataLe false id x z = true := by
  rw [dle_iff] at *
  cases q : dlt z x with
  | false => rfl
  | true =>
    rcases PyProof.Rows.lex_negTrans _ (PySem.W.keyToks y) _ q with a | a
    · rw [show dlt z y = true from a] at h2; cases h2
    · rw [show dlt y x = true from a] at h; cases h
theorem dle_total (x y : D) : (PySem.W.dataLe false id x y || PySem.W.dataLe false id y x) = true := by
  rw [dle_iff, dle_iff]
  cases a : dlt y x with
  | false => rfl
  | true =>
    cases b : dlt x y with
    | false => rfl
    | true =>
      have := dlt_trans a b
      rw [dlt_irrefl] at this
      cases this
theorem dlt_total {x y : D} (ha : PySem.W.alike x y = true) (h1 : dlt x y = false) (h2 : dlt y x = false) : PyData.eqv x y = true := by
  have e := PyProof.Rows.lex_total _ _ h1 h2
  cases q : PyData.eqv x y with
  | true => rfl
  | false =>
    have z := (PySem.W.toks_eqv x y ha).2 q [] [.inl 0]
    rw [e, List.append_nil] at z
    have l : ∀ t : List (Int ⊕ List Nat), PyProof.Rows.lexLt itemOrd t (t ++ [.inl 0]) = true := fun t => by
      have := PySem.W.lex_pre t [] [.inl 0]
      rw [List.append_nil] at this
      rw [this]
      rfl
    rw [l, PyProof.Rows.lex_irrefl] at z
    cases z
/-- sorted lists of the same distinct data are the same -/
theorem sort_unique {xs ys : List D} (hal : ∀ x ∈ xs, ∀ y ∈ xs, PySem.W.alike x y = true) (hnb : ∀ x ∈ xs, noB x = true) (p : xs.Perm ys) (hx : xs.Pairwise fun a b => PySem.W.dataLe false id a b = true) (hy : ys.Pairwise fun a b => PySem.W.dataLe false id a b = true) : xs = ys :=
  List.Perm.eq_of_pairwise (le := fun a b => PySem.W.dataLe false id a b = true) (fun a b ha hb h1 h2 => by
    have hb := p.mem_iff.mpr hb
    rw [dle_iff] at h1 h2
    exact (eqv_iff a b (hnb a ha) (hnb b hb)).mp (dlt_total (hal a ha b hb) (by simpa using h2) (by simpa using h1))) hx hy p
theorem sortL_ok {ds : List D} (h : sortC ds = true) : sortL (.list ds) = .ok (ds.mergeSort (PySem.W.dataLe false id)) := if_pos h
theorem nodup_le {α : Type} [DecidableEq α] : ∀ (l m : List α), l.Nodup → (∀ x ∈ l, x ∈ m) → l.length ≤ m.length
  | [], _, _, _ => Nat.zero_le _
  | x :: l, m, hn, h => by
    obtain ⟨h1, h2⟩ := List.nodup_cons.mp hn
    have hx := h x List.mem_cons_self
    have := nodup_le l (m.erase x) h2 fun y hy => (List.mem_erase_of_ne (fun (e : y = x) => h1 (e ▸ hy))).mpr (h y (List.mem_cons_of_mem _ hy))
    rw [List.length_erase_of_mem hx] at this
    have := List.length_pos_of_mem hx
    rw [List.length_cons]
    omega
theorem len_ok {fa : En → Res D} {ρ : En} {ds : List D} {n : Nat} (ha : fa ρ = .ok (.list ds)) (hn : ds.length = n) : (eN (oneD lenD) (aC fa a0)) ρ = .ok (.int (n : Int)) := by
  rw [one_ok ha]
  subst hn
  rfl
end Pyr

set_option Elab.async false
set_option autoImplicit false
set_option linter.all false
set_option maxRecDepth 100000
set_option maxHeartbeats 4000000
namespace Com2
noncomputable section
open PySem PySem.Spec PyProof.Rows L2 Evl Pyr
/-! ### tables, facts -/
abbrev Tb := Str × Nat × Option Nat
def kyD : Option Nat → Pyr.D
  | none => .none
  | some k => .int (k : Int)
def tbD (t : Tb) : Pyr.D := .tuple [.str t.1, .int (t.2.1 : Int), kyD t.2.2]
abbrev Ft := Str × List Str
def ftD (f : Ft) : Pyr.D := .tuple [.str f.1, .tuple (f.2.map .str)]
def FtOk (f : Ft) : Prop := Wd f.1 ∧ ∀ w ∈ f.2, Wd w
theorem rows_f {r : List Str} (h : ∀ w ∈ r, Wd w) (n : Nat) : fD (n + 1) (.tuple (r.map .str)) = true := by
  show fDs n (r.map .str) = true
  refine fDs_all fun d hd => ?_
  obtain ⟨x, hx, rfl⟩ := List.mem_map.mp hd
  exact wd_f (h x hx) n
theorem strs_inj {r s : List Str} (h : r.map PyData.str = s.map .str) : r = s := List.map_inj_right (fun a b e => by injection e) |>.mp h
theorem ftE : Enc ftD FtOk where
  inj := fun x y h => by
    unfold ftD at h
    injection h with h
    injection h with h1 h
    injection h with h2 _
    injection h1 with h1
    injection h2 with h2
    exact Prod.ext h1 (strs_inj h2)
  nb := fun x => by
    show (true && (noB (.tuple (x.2.map .str)) && true)) = true
    rw [noB_strs]
    rfl
  fd := fun x h => by
    show (fD 49 (.str x.1) && (fD 49 (.tuple (x.2.map .str)) && true)) = true
    rw [wd_f h.1, rows_f h.2]
    rfl
theorem strE : Enc PyData.str Wd := ⟨fun x y h => by injection h, fun _ => rfl, fun x h => wd_f h 50⟩
def rwD (r : List Str) : Pyr.D := .tuple (r.map .str)
theorem rwE : Enc rwD fun r => ∀ w ∈ r, Wd w := ⟨fun x y h => strs_inj (by injection h), fun x => noB_strs x, fun x h => rows_f h 49⟩
/-- the first place of the name -/
def plc (S : List Tb) (x : Str) : Option Nat := (List.range' 0 S.length).find? fun k => decide (S[k]?.map (·.1) = some x)
theorem plc_some {S : List Tb} {x : Str} {k : Nat} (h : plc S x = some k) : ∃ hk : k < S.length, S[k].1 = x := by
  have a := List.mem_of_find?_eq_some h
  have b := List.find?_some h
  have hk : k < S.length := by have := (List.mem_range'_1.mp a).2; omega
  refine ⟨hk, ?_⟩
  simpa [List.getElem?_eq_getElem hk] using b
theorem plc_in {S : List Tb} {x : Str} (h : ∃ t ∈ S, t.1 = x) : ∃ k, plc S x = some k := by
  cases e : plc S x with
  | some k => exact ⟨k, rfl⟩
  | none =>
    obtain ⟨t, ht, rfl⟩ := h
    obtain ⟨i, hi, rfl⟩ := List.getElem_of_mem ht
    have := List.find?_eq_none.mp e i (List.mem_range'_1.mpr ⟨by omega, by omega⟩)
    simp [List.getElem?_eq_getElem hi] at this
theorem plc_least {S : List Tb} {x : Str} {k : Nat} (h : plc S x = some k) : ∀ j, j < k → S[j]?.map (·.1) ≠ some x := fun j hj e => by
  have := List.find?_range'_eq_some.mp h
  have := this.2.2 j (by omega) hj
  simp [e] at this
theorem tb_at {S : List Tb} {k : Nat} (hk : k < S.length) : atD (.list (S.map tbD)) (.int (k : Int)) = .ok (tbD S[k]) := at_list (by simp [hk])
theorem tb_0 (t : Tb) : atD (tbD t) (.int 0) = .ok (.str t.1) := run_atT0
theorem tb_1 (t : Tb) : atD (tbD t) (.int 1) = .ok (.int (t.2.1 : Int)) := run_atT1
theorem tb_2 (t : Tb) : atD (tbD t) (.int 2) = .ok (kyD t.2.2) := run_atT2
theorem v0_tb {t : Tb} {ρ : En} : eVar 0 (some (tbD t) :: ρ) = .ok (tbD t) := rfl
theorem v0_ft {t : Ft} {ρ : En} : eVar 0 (some (ftD t) :: ρ) = .ok (ftD t) := rfl
theorem v0_rw {t : List Str} {ρ : En} : eVar 0 (some (rwD t) :: ρ) = .ok (rwD t) := rfl
theorem ft_0 (t : Ft) : atD (ftD t) (.int 0) = .ok (.str t.1) := run_atT0
theorem ft_1 (t : Ft) : atD (ftD t) (.int 1) = .ok (rwD t.2) := run_atT1
theorem lplace_run (S : List Tb) (x : Str) (hS : S.length ≤ 1000) : m__law_place [.list (S.map tbD), .str x] = .ok (.val (.int (((plc S x).getD S.length : Nat) : Int))) := by
  have lS : (S.map tbD).length = S.length := List.length_map _
  rw [u__law_place]
  rw [defM_eq (np := 2) rfl]
  show outR (F__law_place [.val (.list (S.map tbD)), .val (.str x), .emp]) = _
  unfold F__law_place
  have hf := forF_find (t := Tg.nm 2) (F := B__law_place_0) (ρ := [.val (.list (S.map tbD)), .val (.str x), .emp]) (fun k : Nat => .int (k : Int)) (fun k => decide (S[k]?.map (·.1) = some x)) (fun k => .val (.int (k : Int))) (List.range' 0 S.length) fun k hk => by
    have hk : k < S.length := by have := (List.mem_range'_1.mp hk).2; omega
    refine ⟨_, rfl, fun h => ?_, fun h => .inl ?_⟩
    · have h : S[k].1 = x := by simpa [List.getElem?_eq_getElem hk] using h
      unfold B__law_place_0
      simp -implicitDefEqProofs (disch := omega) only [Pyr.run_flI, Pyr.run_flB, Pyr.run_flS, Pyr.run_flN, Pyr.sSeq, Pyr.sKill, Pyr.run_kill0, Pyr.run_killS, Pyr.sIf, Pyr.sSet, Pyr.sSetL, Pyr.sRet, Pyr.sRetL, Pyr.sRetN, Pyr.sRetO, Pyr.sDrop, Pyr.sApp, Pyr.sNext, Pyr.sFrz, Pyr.sSetT, Pyr.tgF, Pyr.setsF, Pyr.evP, Pyr.evL, Pyr.evT, Pyr.bare, Pyr.eC, Pyr.e1, Pyr.e2, Pyr.eN, Pyr.aC, Pyr.a0, Pyr.eIf, Pyr.eAnd, Pyr.eOr, Pyr.eNot, Pyr.eChain, Pyr.tE, Pyr.tNotR, Pyr.tAndR, Pyr.tOrR, Pyr.eCall, Pyr.lCall, Pyr.iF, Pyr.iF2, Pyr.lN, Pyr.lF, Pyr.eFs, Pyr.jC, Pyr.j0, Pyr.eIxV, Pyr.ownI, Pyr.lAdd, Pyr.sExt, Pyr.sPop, Pyr.trF, Pyr.trsF, Trs.len, Pyr.run_max2, Pyr.run_min2, Pyr.backD, Pyr.eSlice, Pyr.oNone, Pyr.oSome, Pyr.optI, Pyr.lSlice, Pyr.listD, eL, Pyr.eB, Pyr.oneD, Pyr.oneL, Pyr.itemsD, Pyr.outR, Pyr.ownD, Pyr.RV.d, Pyr.tupD, Pyr.run_mul, Pyr.run_mulS, Pyr.run_add, Pyr.run_sub, Pyr.run_addS, Pyr.run_mod, Pyr.run_fdiv, Pyr.run_lt, Pyr.run_le, Pyr.run_gt, Pyr.run_ge, Pyr.run_lenL, Pyr.run_lenT, Pyr.run_lenS, Pyr.run_int, Pyr.run_bool, Pyr.run_truB, Pyr.run_truL, Pyr.run_pur1, Pyr.run_frz1, Pyr.run_pSv, Pyr.run_pSo, Pyr.run_pSe, Pyr.run_fSv, Pyr.run_fSo, Pyr.run_fSe, Pyr.run_pur0, Pyr.run_frz0, Pyr.run_v0n, Pyr.run_v0b, Pyr.run_v0i, Pyr.run_v0s, Pyr.run_v0l, Pyr.run_v0t, Pyr.run_v0o, Pyr.run_vN, Pyr.run_vS, Pyr.run_bad, Pyr.run_exc, Pyr.run_map, Pyr.run_okL, List.length_cons, List.length_nil, Pyr.bind_ok, List.set_cons_zero, List.set_cons_succ, List.getElem?_cons_zero, List.getElem?_cons_succ, Pyr.eqD_int, Pyr.eqD_str, Pyr.neD_int, Pyr.neD_str, if_true, if_false, Bool.not_true, Bool.not_false, Bool.false_eq_true, decide_true, decide_false, Pyr.run_atT0, Pyr.run_atT1, Pyr.run_atT2, Pyr.run_atT3, Pyr.run_atT4, Pyr.run_atL0, Pyr.run_atL1, Pyr.run_atL2, Pyr.run_atL3, Pyr.run_atL4, Pyr.isi_str_n, Pyr.isi_str_b, Pyr.isi_str_i, Pyr.isi_str_s, Pyr.isi_str_l, Pyr.isi_str_t, Pyr.isi_str_d, Pyr.isi_int_n, Pyr.isi_int_b, Pyr.isi_int_i, Pyr.isi_int_s, Pyr.isi_int_l, Pyr.isi_int_t, Pyr.isi_int_d, Pyr.isi_bool_n, Pyr.isi_bool_b, Pyr.isi_bool_i, Pyr.isi_bool_s, Pyr.isi_bool_l, Pyr.isi_bool_t, Pyr.isi_bool_d, Pyr.isi_list_n, Pyr.isi_list_b, Pyr.isi_list_i, Pyr.isi_list_s, Pyr.isi_list_l, Pyr.isi_list_t, Pyr.isi_list_d, Pyr.isi_tuple_n, Pyr.isi_tuple_b, Pyr.isi_tuple_i, Pyr.isi_tuple_s, Pyr.isi_tuple_l, Pyr.isi_tuple_t, Pyr.isi_tuple_d, Pyr.isi_dict_n, Pyr.isi_dict_b, Pyr.isi_dict_i, Pyr.isi_dict_s, Pyr.isi_dict_l, Pyr.isi_dict_t, Pyr.isi_dict_d, Nat.reduceAdd, Int.cast_ofNat_Int, Int.natCast_zero, Int.natCast_one, Int.reduceEq, Int.reduceLT, Int.reduceLE, Int.reduceAdd, Int.reduceSub, Int.reduceMul, Int.reduceNeg, Int.reduceNe, Nat.zero_add, reduceIte, decide_eq_true_eq, beq_self_eq_true, eq_self, Bool.true_or, Bool.or_true, Bool.and_true, Bool.true_and, Bool.false_or, Bool.or_false, Bool.and_false, Bool.false_and, tb_at hk, tb_0, h]
    · have h : ¬ S[k].1 = x := by simpa [List.getElem?_eq_getElem hk] using h
      unfold B__law_place_0
      simp -implicitDefEqProofs (disch := omega) only [Pyr.run_flI, Pyr.run_flB, Pyr.run_flS, Pyr.run_flN, Pyr.sSeq, Pyr.sKill, Pyr.run_kill0, Pyr.run_killS, Pyr.sIf, Pyr.sSet, Pyr.sSetL, Pyr.sRet, Pyr.sRetL, Pyr.sRetN, Pyr.sRetO, Pyr.sDrop, Pyr.sApp, Pyr.sNext, Pyr.sFrz, Pyr.sSetT, Pyr.tgF, Pyr.setsF, Pyr.evP, Pyr.evL, Pyr.evT, Pyr.bare, Pyr.eC, Pyr.e1, Pyr.e2, Pyr.eN, Pyr.aC, Pyr.a0, Pyr.eIf, Pyr.eAnd, Pyr.eOr, Pyr.eNot, Pyr.eChain, Pyr.tE, Pyr.tNotR, Pyr.tAndR, Pyr.tOrR, Pyr.eCall, Pyr.lCall, Pyr.iF, Pyr.iF2, Pyr.lN, Pyr.lF, Pyr.eFs, Pyr.jC, Pyr.j0, Pyr.eIxV, Pyr.ownI, Pyr.lAdd, Pyr.sExt, Pyr.sPop, Pyr.trF, Pyr.trsF, Trs.len, Pyr.run_max2, Pyr.run_min2, Pyr.backD, Pyr.eSlice, Pyr.oNone, Pyr.oSome, Pyr.optI, Pyr.lSlice, Pyr.listD, eL, Pyr.eB, Pyr.oneD, Pyr.oneL, Pyr.itemsD, Pyr.outR, Pyr.ownD, Pyr.RV.d, Pyr.tupD, Pyr.run_mul, Pyr.run_mulS, Pyr.run_add, Pyr.run_sub, Pyr.run_addS, Pyr.run_mod, Pyr.run_fdiv, Pyr.run_lt, Pyr.run_le, Pyr.run_gt, Pyr.run_ge, Pyr.run_lenL, Pyr.run_lenT, Pyr.run_lenS, Pyr.run_int, Pyr.run_bool, Pyr.run_truB, Pyr.run_truL, Pyr.run_pur1, Pyr.run_frz1, Pyr.run_pSv, Pyr.run_pSo, Pyr.run_pSe, Pyr.run_fSv, Pyr.run_fSo, Pyr.run_fSe, Pyr.run_pur0, Pyr.run_frz0, Pyr.run_v0n, Pyr.run_v0b, Pyr.run_v0i, Pyr.run_v0s, Pyr.run_v0l, Pyr.run_v0t, Pyr.run_v0o, Pyr.run_vN, Pyr.run_vS, Pyr.run_bad, Pyr.run_exc, Pyr.run_map, Pyr.run_okL, List.length_cons, List.length_nil, Pyr.bind_ok, List.set_cons_zero, List.set_cons_succ, List.getElem?_cons_zero, List.getElem?_cons_succ, Pyr.eqD_int, Pyr.eqD_str, Pyr.neD_int, Pyr.neD_str, if_true, if_false, Bool.not_true, Bool.not_false, Bool.false_eq_true, decide_true, decide_false, Pyr.run_atT0, Pyr.run_atT1, Pyr.run_atT2, Pyr.run_atT3, Pyr.run_atT4, Pyr.run_atL0, Pyr.run_atL1, Pyr.run_atL2, Pyr.run_atL3, Pyr.run_atL4, Pyr.isi_str_n, Pyr.isi_str_b, Pyr.isi_str_i, Pyr.isi_str_s, Pyr.isi_str_l, Pyr.isi_str_t, Pyr.isi_str_d, Pyr.isi_int_n, Pyr.isi_int_b, Pyr.isi_int_i, Pyr.isi_int_s, Pyr.isi_int_l, Pyr.isi_int_t, Pyr.isi_int_d, Pyr.isi_bool_n, Pyr.isi_bool_b, Pyr.isi_bool_i, Pyr.isi_bool_s, Pyr.isi_bool_l, Pyr.isi_bool_t, Pyr.isi_bool_d, Pyr.isi_list_n, Pyr.isi_list_b, Pyr.isi_list_i, Pyr.isi_list_s, Pyr.isi_list_l, Pyr.isi_list_t, Pyr.isi_list_d, Pyr.isi_tuple_n, Pyr.isi_tuple_b, Pyr.isi_tuple_i, Pyr.isi_tuple_s, Pyr.isi_tuple_l, Pyr.isi_tuple_t, Pyr.isi_tuple_d, Pyr.isi_dict_n, Pyr.isi_dict_b, Pyr.isi_dict_i, Pyr.isi_dict_s, Pyr.isi_dict_l, Pyr.isi_dict_t, Pyr.isi_dict_d, Nat.reduceAdd, Int.cast_ofNat_Int, Int.natCast_zero, Int.natCast_one, Int.reduceEq, Int.reduceLT, Int.reduceLE, Int.reduceAdd, Int.reduceSub, Int.reduceMul, Int.reduceNeg, Int.reduceNe, Nat.zero_add, reduceIte, decide_eq_true_eq, beq_self_eq_true, eq_self, Bool.true_or, Bool.or_true, Bool.and_true, Bool.true_and, Bool.false_or, Bool.or_false, Bool.and_false, Bool.false_and, tb_at hk, tb_0, h]
  rw [← upto_map] at hf
  show outR (sSeq _ _ [.val (.list (S.map tbD)), .val (.str x), .emp]) = _
  have hr : (iF r1D (eN (oneD lenD) (aC (eVar 0) a0))) (frzE [.val (.list (S.map tbD)), .val (.str x), .emp]) = r1D (.int (S.length : Int)) := iF_ok (len_ok rfl lS)
  cases e : plc S x with
  | some k =>
    have e' : (List.range' 0 S.length).find? (fun k => decide (S[k]?.map (·.1) = some x)) = some k := e
    rw [e'] at hf
    rw [seq_ret (forN S.length (by omega) hr hf)]
    rfl
  | none =>
    have e' : (List.range' 0 S.length).find? (fun k => decide (S[k]?.map (·.1) = some x)) = none := e
    rw [e'] at hf
    rw [seq_ok (forN S.length (by omega) hr hf)]
    simp -implicitDefEqProofs (disch := omega) only [Pyr.run_flI, Pyr.run_flB, Pyr.run_flS, Pyr.run_flN, Pyr.sSeq, Pyr.sKill, Pyr.run_kill0, Pyr.run_killS, Pyr.sIf, Pyr.sSet, Pyr.sSetL, Pyr.sRet, Pyr.sRetL, Pyr.sRetN, Pyr.sRetO, Pyr.sDrop, Pyr.sApp, Pyr.sNext, Pyr.sFrz, Pyr.sSetT, Pyr.tgF, Pyr.setsF, Pyr.evP, Pyr.evL, Pyr.evT, Pyr.bare, Pyr.eC, Pyr.e1, Pyr.e2, Pyr.eN, Pyr.aC, Pyr.a0, Pyr.eIf, Pyr.eAnd, Pyr.eOr, Pyr.eNot, Pyr.eChain, Pyr.tE, Pyr.tNotR, Pyr.tAndR, Pyr.tOrR, Pyr.eCall, Pyr.lCall, Pyr.iF, Pyr.iF2, Pyr.lN, Pyr.lF, Pyr.eFs, Pyr.jC, Pyr.j0, Pyr.eIxV, Pyr.ownI, Pyr.lAdd, Pyr.sExt, Pyr.sPop, Pyr.trF, Pyr.trsF, Trs.len, Pyr.run_max2, Pyr.run_min2, Pyr.backD, Pyr.eSlice, Pyr.oNone, Pyr.oSome, Pyr.optI, Pyr.lSlice, Pyr.listD, eL, Pyr.eB, Pyr.oneD, Pyr.oneL, Pyr.itemsD, Pyr.outR, Pyr.ownD, Pyr.RV.d, Pyr.tupD, Pyr.run_mul, Pyr.run_mulS, Pyr.run_add, Pyr.run_sub, Pyr.run_addS, Pyr.run_mod, Pyr.run_fdiv, Pyr.run_lt, Pyr.run_le, Pyr.run_gt, Pyr.run_ge, Pyr.run_lenL, Pyr.run_lenT, Pyr.run_lenS, Pyr.run_int, Pyr.run_bool, Pyr.run_truB, Pyr.run_truL, Pyr.run_pur1, Pyr.run_frz1, Pyr.run_pSv, Pyr.run_pSo, Pyr.run_pSe, Pyr.run_fSv, Pyr.run_fSo, Pyr.run_fSe, Pyr.run_pur0, Pyr.run_frz0, Pyr.run_v0n, Pyr.run_v0b, Pyr.run_v0i, Pyr.run_v0s, Pyr.run_v0l, Pyr.run_v0t, Pyr.run_v0o, Pyr.run_vN, Pyr.run_vS, Pyr.run_bad, Pyr.run_exc, Pyr.run_map, Pyr.run_okL, List.length_cons, List.length_nil, Pyr.bind_ok, List.set_cons_zero, List.set_cons_succ, List.getElem?_cons_zero, List.getElem?_cons_succ, Pyr.eqD_int, Pyr.eqD_str, Pyr.neD_int, Pyr.neD_str, if_true, if_false, Bool.not_true, Bool.not_false, Bool.false_eq_true, decide_true, decide_false, Pyr.run_atT0, Pyr.run_atT1, Pyr.run_atT2, Pyr.run_atT3, Pyr.run_atT4, Pyr.run_atL0, Pyr.run_atL1, Pyr.run_atL2, Pyr.run_atL3, Pyr.run_atL4, Pyr.isi_str_n, Pyr.isi_str_b, Pyr.isi_str_i, Pyr.isi_str_s, Pyr.isi_str_l, Pyr.isi_str_t, Pyr.isi_str_d, Pyr.isi_int_n, Pyr.isi_int_b, Pyr.isi_int_i, Pyr.isi_int_s, Pyr.isi_int_l, Pyr.isi_int_t, Pyr.isi_int_d, Pyr.isi_bool_n, Pyr.isi_bool_b, Pyr.isi_bool_i, Pyr.isi_bool_s, Pyr.isi_bool_l, Pyr.isi_bool_t, Pyr.isi_bool_d, Pyr.isi_list_n, Pyr.isi_list_b, Pyr.isi_list_i, Pyr.isi_list_s, Pyr.isi_list_l, Pyr.isi_list_t, Pyr.isi_list_d, Pyr.isi_tuple_n, Pyr.isi_tuple_b, Pyr.isi_tuple_i, Pyr.isi_tuple_s, Pyr.isi_tuple_l, Pyr.isi_tuple_t, Pyr.isi_tuple_d, Pyr.isi_dict_n, Pyr.isi_dict_b, Pyr.isi_dict_i, Pyr.isi_dict_s, Pyr.isi_dict_l, Pyr.isi_dict_t, Pyr.isi_dict_d, Nat.reduceAdd, Int.cast_ofNat_Int, Int.natCast_zero, Int.natCast_one, Int.reduceEq, Int.reduceLT, Int.reduceLE, Int.reduceAdd, Int.reduceSub, Int.reduceMul, Int.reduceNeg, Int.reduceNe, Nat.zero_add, reduceIte, decide_eq_true_eq, beq_self_eq_true, eq_self, Bool.true_or, Bool.or_true, Bool.and_true, Bool.true_and, Bool.false_or, Bool.or_false, Bool.and_false, Bool.false_and, lS, Option.getD_none]
theorem enumL_map {α : Type} (en : α → Pyr.D) : ∀ (xs : List α) (lo : Nat), enumL lo (xs.map en) = (List.range' lo xs.length).map fun k => .tuple [.int (k : Int), ((xs[k - lo]?).map en).getD .none]
  | [], _ => rfl
  | x :: xs, lo => by
    show PyData.tuple [.int (lo : Int), en x] :: enumL (lo + 1) (xs.map en) = _
    rw [enumL_map en xs (lo + 1), List.length_cons, List.range'_succ, List.map_cons]
    congr 1
    · simp
    · refine List.map_congr_left fun k hk => ?_
      have := (List.mem_range'_1.mp hk).1
      rw [show k - lo = (k - (lo + 1)) + 1 by omega, List.getElem?_cons_succ]
theorem place_run (S : List Tb) (x : Str) (hS : S.length ≤ 1000) : m_place_of [.list (S.map tbD), .str x] = .ok (.val (match plc S x with
    | some k => .int (k : Int)
    | none => .none)) := by
  rw [u_place_of]
  rw [defM_eq (np := 2) rfl]
  show outR (F_place_of [.val (.list (S.map tbD)), .val (.str x), .emp, .emp]) = _
  unfold F_place_of
  have hf := forF_find (t := Tg.tp [2, 3]) (F := B_place_of_0) (ρ := [.val (.list (S.map tbD)), .val (.str x), .emp, .emp]) (fun k : Nat => .tuple [.int (k : Int), ((S[k - 0]?).map tbD).getD .none]) (fun k => decide (S[k]?.map (·.1) = some x)) (fun k => .val (.int (k : Int))) (List.range' 0 S.length) fun k hk => by
    have hk : k < S.length := by have := (List.mem_range'_1.mp hk).2; omega
    have q : ((S[k - 0]?).map tbD).getD .none = tbD S[k] := by rw [Nat.sub_zero, List.getElem?_eq_getElem hk]; rfl
    rw [q]
    refine ⟨_, rfl, fun h => ?_, fun h => .inl ?_⟩
    · have h : S[k].1 = x := by simpa [List.getElem?_eq_getElem hk] using h
      unfold B_place_of_0
      simp -implicitDefEqProofs (disch := omega) only [Pyr.run_flI, Pyr.run_flB, Pyr.run_flS, Pyr.run_flN, Pyr.sSeq, Pyr.sKill, Pyr.run_kill0, Pyr.run_killS, Pyr.sIf, Pyr.sSet, Pyr.sSetL, Pyr.sRet, Pyr.sRetL, Pyr.sRetN, Pyr.sRetO, Pyr.sDrop, Pyr.sApp, Pyr.sNext, Pyr.sFrz, Pyr.sSetT, Pyr.tgF, Pyr.setsF, Pyr.evP, Pyr.evL, Pyr.evT, Pyr.bare, Pyr.eC, Pyr.e1, Pyr.e2, Pyr.eN, Pyr.aC, Pyr.a0, Pyr.eIf, Pyr.eAnd, Pyr.eOr, Pyr.eNot, Pyr.eChain, Pyr.tE, Pyr.tNotR, Pyr.tAndR, Pyr.tOrR, Pyr.eCall, Pyr.lCall, Pyr.iF, Pyr.iF2, Pyr.lN, Pyr.lF, Pyr.eFs, Pyr.jC, Pyr.j0, Pyr.eIxV, Pyr.ownI, Pyr.lAdd, Pyr.sExt, Pyr.sPop, Pyr.trF, Pyr.trsF, Trs.len, Pyr.run_max2, Pyr.run_min2, Pyr.backD, Pyr.eSlice, Pyr.oNone, Pyr.oSome, Pyr.optI, Pyr.lSlice, Pyr.listD, eL, Pyr.eB, Pyr.oneD, Pyr.oneL, Pyr.itemsD, Pyr.outR, Pyr.ownD, Pyr.RV.d, Pyr.tupD, Pyr.run_mul, Pyr.run_mulS, Pyr.run_add, Pyr.run_sub, Pyr.run_addS, Pyr.run_mod, Pyr.run_fdiv, Pyr.run_lt, Pyr.run_le, Pyr.run_gt, Pyr.run_ge, Pyr.run_lenL, Pyr.run_lenT, Pyr.run_lenS, Pyr.run_int, Pyr.run_bool, Pyr.run_truB, Pyr.run_truL, Pyr.run_pur1, Pyr.run_frz1, Pyr.run_pSv, Pyr.run_pSo, Pyr.run_pSe, Pyr.run_fSv, Pyr.run_fSo, Pyr.run_fSe, Pyr.run_pur0, Pyr.run_frz0, Pyr.run_v0n, Pyr.run_v0b, Pyr.run_v0i, Pyr.run_v0s, Pyr.run_v0l, Pyr.run_v0t, Pyr.run_v0o, Pyr.run_vN, Pyr.run_vS, Pyr.run_bad, Pyr.run_exc, Pyr.run_map, Pyr.run_okL, List.length_cons, List.length_nil, Pyr.bind_ok, List.set_cons_zero, List.set_cons_succ, List.getElem?_cons_zero, List.getElem?_cons_succ, Pyr.eqD_int, Pyr.eqD_str, Pyr.neD_int, Pyr.neD_str, if_true, if_false, Bool.not_true, Bool.not_false, Bool.false_eq_true, decide_true, decide_false, Pyr.run_atT0, Pyr.run_atT1, Pyr.run_atT2, Pyr.run_atT3, Pyr.run_atT4, Pyr.run_atL0, Pyr.run_atL1, Pyr.run_atL2, Pyr.run_atL3, Pyr.run_atL4, Pyr.isi_str_n, Pyr.isi_str_b, Pyr.isi_str_i, Pyr.isi_str_s, Pyr.isi_str_l, Pyr.isi_str_t, Pyr.isi_str_d, Pyr.isi_int_n, Pyr.isi_int_b, Pyr.isi_int_i, Pyr.isi_int_s, Pyr.isi_int_l, Pyr.isi_int_t, Pyr.isi_int_d, Pyr.isi_bool_n, Pyr.isi_bool_b, Pyr.isi_bool_i, Pyr.isi_bool_s, Pyr.isi_bool_l, Pyr.isi_bool_t, Pyr.isi_bool_d, Pyr.isi_list_n, Pyr.isi_list_b, Pyr.isi_list_i, Pyr.isi_list_s, Pyr.isi_list_l, Pyr.isi_list_t, Pyr.isi_list_d, Pyr.isi_tuple_n, Pyr.isi_tuple_b, Pyr.isi_tuple_i, Pyr.isi_tuple_s, Pyr.isi_tuple_l, Pyr.isi_tuple_t, Pyr.isi_tuple_d, Pyr.isi_dict_n, Pyr.isi_dict_b, Pyr.isi_dict_i, Pyr.isi_dict_s, Pyr.isi_dict_l, Pyr.isi_dict_t, Pyr.isi_dict_d, Nat.reduceAdd, Int.cast_ofNat_Int, Int.natCast_zero, Int.natCast_one, Int.reduceEq, Int.reduceLT, Int.reduceLE, Int.reduceAdd, Int.reduceSub, Int.reduceMul, Int.reduceNeg, Int.reduceNe, Nat.zero_add, reduceIte, decide_eq_true_eq, beq_self_eq_true, eq_self, Bool.true_or, Bool.or_true, Bool.and_true, Bool.true_and, Bool.false_or, Bool.or_false, Bool.and_false, Bool.false_and, setsF, tb_0, v0_tb, h]
    · have h : ¬ S[k].1 = x := by simpa [List.getElem?_eq_getElem hk] using h
      unfold B_place_of_0
      simp -implicitDefEqProofs (disch := omega) only [Pyr.run_flI, Pyr.run_flB, Pyr.run_flS, Pyr.run_flN, Pyr.sSeq, Pyr.sKill, Pyr.run_kill0, Pyr.run_killS, Pyr.sIf, Pyr.sSet, Pyr.sSetL, Pyr.sRet, Pyr.sRetL, Pyr.sRetN, Pyr.sRetO, Pyr.sDrop, Pyr.sApp, Pyr.sNext, Pyr.sFrz, Pyr.sSetT, Pyr.tgF, Pyr.setsF, Pyr.evP, Pyr.evL, Pyr.evT, Pyr.bare, Pyr.eC, Pyr.e1, Pyr.e2, Pyr.eN, Pyr.aC, Pyr.a0, Pyr.eIf, Pyr.eAnd, Pyr.eOr, Pyr.eNot, Pyr.eChain, Pyr.tE, Pyr.tNotR, Pyr.tAndR, Pyr.tOrR, Pyr.eCall, Pyr.lCall, Pyr.iF, Pyr.iF2, Pyr.lN, Pyr.lF, Pyr.eFs, Pyr.jC, Pyr.j0, Pyr.eIxV, Pyr.ownI, Pyr.lAdd, Pyr.sExt, Pyr.sPop, Pyr.trF, Pyr.trsF, Trs.len, Pyr.run_max2, Pyr.run_min2, Pyr.backD, Pyr.eSlice, Pyr.oNone, Pyr.oSome, Pyr.optI, Pyr.lSlice, Pyr.listD, eL, Pyr.eB, Pyr.oneD, Pyr.oneL, Pyr.itemsD, Pyr.outR, Pyr.ownD, Pyr.RV.d, Pyr.tupD, Pyr.run_mul, Pyr.run_mulS, Pyr.run_add, Pyr.run_sub, Pyr.run_addS, Pyr.run_mod, Pyr.run_fdiv, Pyr.run_lt, Pyr.run_le, Pyr.run_gt, Pyr.run_ge, Pyr.run_lenL, Pyr.run_lenT, Pyr.run_lenS, Pyr.run_int, Pyr.run_bool, Pyr.run_truB, Pyr.run_truL, Pyr.run_pur1, Pyr.run_frz1, Pyr.run_pSv, Pyr.run_pSo, Pyr.run_pSe, Pyr.run_fSv, Pyr.run_fSo, Pyr.run_fSe, Pyr.run_pur0, Pyr.run_frz0, Pyr.run_v0n, Pyr.run_v0b, Pyr.run_v0i, Pyr.run_v0s, Pyr.run_v0l, Pyr.run_v0t, Pyr.run_v0o, Pyr.run_vN, Pyr.run_vS, Pyr.run_bad, Pyr.run_exc, Pyr.run_map, Pyr.run_okL, List.length_cons, List.length_nil, Pyr.bind_ok, List.set_cons_zero, List.set_cons_succ, List.getElem?_cons_zero, List.getElem?_cons_succ, Pyr.eqD_int, Pyr.eqD_str, Pyr.neD_int, Pyr.neD_str, if_true, if_false, Bool.not_true, Bool.not_false, Bool.false_eq_true, decide_true, decide_false, Pyr.run_atT0, Pyr.run_atT1, Pyr.run_atT2, Pyr.run_atT3, Pyr.run_atT4, Pyr.run_atL0, Pyr.run_atL1, Pyr.run_atL2, Pyr.run_atL3, Pyr.run_atL4, Pyr.isi_str_n, Pyr.isi_str_b, Pyr.isi_str_i, Pyr.isi_str_s, Pyr.isi_str_l, Pyr.isi_str_t, Pyr.isi_str_d, Pyr.isi_int_n, Pyr.isi_int_b, Pyr.isi_int_i, Pyr.isi_int_s, Pyr.isi_int_l, Pyr.isi_int_t, Pyr.isi_int_d, Pyr.isi_bool_n, Pyr.isi_bool_b, Pyr.isi_bool_i, Pyr.isi_bool_s, Pyr.isi_bool_l, Pyr.isi_bool_t, Pyr.isi_bool_d, Pyr.isi_list_n, Pyr.isi_list_b, Pyr.isi_list_i, Pyr.isi_list_s, Pyr.isi_list_l, Pyr.isi_list_t, Pyr.isi_list_d, Pyr.isi_tuple_n, Pyr.isi_tuple_b, Pyr.isi_tuple_i, Pyr.isi_tuple_s, Pyr.isi_tuple_l, Pyr.isi_tuple_t, Pyr.isi_tuple_d, Pyr.isi_dict_n, Pyr.isi_dict_b, Pyr.isi_dict_i, Pyr.isi_dict_s, Pyr.isi_dict_l, Pyr.isi_dict_t, Pyr.isi_dict_d, Nat.reduceAdd, Int.cast_ofNat_Int, Int.natCast_zero, Int.natCast_one, Int.reduceEq, Int.reduceLT, Int.reduceLE, Int.reduceAdd, Int.reduceSub, Int.reduceMul, Int.reduceNeg, Int.reduceNe, Nat.zero_add, reduceIte, decide_eq_true_eq, beq_self_eq_true, eq_self, Bool.true_or, Bool.or_true, Bool.and_true, Bool.true_and, Bool.false_or, Bool.or_false, Bool.and_false, Bool.false_and, setsF, tb_0, v0_tb, h]
  have hr : (iF enumD (eVar 0)) (purE [.val (.list (S.map tbD)), .val (.str x), .emp, .emp]) = .ok (enumL 0 (S.map tbD)) := rfl
  have he := enumL_map tbD S 0
  have he : enumL 0 (S.map tbD) = _ := he
  show outR (sSeq _ _ [.val (.list (S.map tbD)), .val (.str x), .emp, .emp]) = _
  rw [← he] at hf
  cases e : plc S x with
  | some k =>
    have e' : (List.range' 0 S.length).find? (fun k => decide (S[k]?.map (·.1) = some x)) = some k := e
    rw [e'] at hf
    rw [seq_ret ((for_ok hr).trans hf)]
    rfl
  | none =>
    have e' : (List.range' 0 S.length).find? (fun k => decide (S[k]?.map (·.1) = some x)) = none := e
    rw [e'] at hf
    rw [seq_ok ((for_ok hr).trans hf)]
    rfl
end
end Com2

set_option Elab.async false
set_option autoImplicit false
set_option linter.all false
set_option maxRecDepth 100000
set_option maxHeartbeats 4000000
namespace Com2
noncomputable section
open PySem PySem.Spec PyProof.Rows L2 Evl Pyr
/-! ### _law_ascending -/
def prD (p : Nat × List Str) : Pyr.D := .tuple [.int (p.1 : Int), .tuple (p.2.map .str)]
def keyP (S : List Tb) (f : Ft) : Nat × List Str := ((plc S f.1).getD S.length, f.2)
def leF (S : List Tb) (f g : Ft) : Bool := PySem.W.dataLe false id (prD (keyP S f)) (prD (keyP S g))
/-- each once, in the order of the first ones -/
def dstep {α : Type} [DecidableEq α] (acc : List α) (f : α) : List α := if f ∈ acc then acc else acc ++ [f]
def ddp {α : Type} [DecidableEq α] (xs : List α) : List α := xs.foldl dstep []
def ascF (S : List Tb) (fs : List Ft) : List Ft := ddp (fs.mergeSort (leF S))
theorem alike_strs : ∀ r s : List Str, PySem.W.alikeAll (r.map .str) (s.map .str) = true
  | [], _ => rfl
  | _ :: _, [] => rfl
  | x :: r, y :: s => by
    show (PySem.W.alike (.str x) (.str y) && PySem.W.alikeAll (r.map .str) (s.map .str)) = true
    rw [alike_strs r s]
    rfl
theorem alike_pr (p q : Nat × List Str) : PySem.W.alike (prD p) (prD q) = true := by
  show (true && (PySem.W.alikeAll (p.2.map .str) (q.2.map .str) && true)) = true
  rw [alike_strs]
  rfl
theorem flat_strs : ∀ r : List Str, flatsD (r.map .str) = true ∧ PyData.depthAll (r.map .str) = 0
  | [] => ⟨rfl, rfl⟩
  | x :: r => by
    obtain ⟨a, b⟩ := flat_strs r
    exact ⟨by show (true && flatsD (r.map .str)) = true; rw [a]; rfl, by show max 0 (PyData.depthAll (r.map .str)) = 0; rw [b]; rfl⟩
theorem sort_pr (ps : List (Nat × List Str)) (h : ps.length ≤ 100000) : sortC (ps.map prD) = true := by
  unfold sortC
  simp only [Bool.and_eq_true]
  refine ⟨⟨⟨?_, ?_⟩, ?_⟩, decide_eq_true (by rw [List.length_map]; exact h)⟩
  · refine List.all_eq_true.mpr fun d hd => List.all_eq_true.mpr fun e he => ?_
    obtain ⟨p, _, rfl⟩ := List.mem_map.mp hd
    obtain ⟨q, _, rfl⟩ := List.mem_map.mp he
    exact alike_pr p q
  · unfold sortableB
    rw [Bool.or_eq_true]
    refine .inl (List.all_eq_true.mpr fun d hd => ?_)
    obtain ⟨p, _, rfl⟩ := List.mem_map.mp hd
    rfl
  · refine List.all_eq_true.mpr fun d hd => ?_
    obtain ⟨p, _, rfl⟩ := List.mem_map.mp hd
    obtain ⟨a, b⟩ := flat_strs p.2
    rw [Bool.and_eq_true]
    refine ⟨by show (true && (flatsD (p.2.map .str) && true)) = true; rw [a]; rfl, decide_eq_true ?_⟩
    show max 0 (max (PyData.depthAll (p.2.map .str) + 1) 0) + 1 ≤ 12
    rw [b]
    decide
/-- the names of the facts are names of tables -/
def InS (S : List Tb) (fs : List Ft) : Prop := ∀ f ∈ fs, FtOk f ∧ ∃ t ∈ S, t.1 = f.1
theorem asc_run (S : List Tb) (fs : List Ft) (hS : S.length ≤ 100) (hf : fs.length ≤ 10000) (h : InS S fs) : m__law_ascending [.list (S.map tbD), .list (fs.map ftD)] = .ok (.own ((ascF S fs).map ftD)) := by
  rw [u__law_ascending]
  rw [defM_eq (np := 2) rfl]
  show outR (F__law_ascending [.val (.list (S.map tbD)), .val (.list (fs.map ftD)), .emp, .emp, .emp, .emp]) = _
  unfold F__law_ascending
  rw [seq_ok (setL_ok (d := []) rfl)]
  have perm := List.mergeSort_perm fs (leF S)
  have hsort : (fs.map fun f => prD (keyP S f)).mergeSort (PySem.W.dataLe false id) = (fs.mergeSort (leF S)).map fun f => prD (keyP S f) := (List.map_mergeSort (r := leF S) (s := PySem.W.dataLe false id) (f := fun f => prD (keyP S f)) fun _ _ _ _ => rfl).symm
  have hit : (iF walkD fun ρ => ((lF (oneL sortL) (aC (eL (lComp [5] (Tg.nm 5) (iF walkD (eVar 1)) tYesR (eN tupD (aC (eCall m__law_place (aC (eVar 0) (aC (Pyr.e2 atD (eVar 5) (eC (.int 0))) a0))) (aC (Pyr.e2 atD (eVar 5) (eC (.int 1))) a0))))) a0)) ρ).map PyData.list) (purE [.val (.list (S.map tbD)), .val (.list (fs.map ftD)), .own (.lst []), .emp, .emp, .emp]) = .ok ((fs.mergeSort (leF S)).map fun f => prD (keyP S f)) := by
    refine (iF_ok (mapL_ok (ds := (fs.mergeSort (leF S)).map fun f => prD (keyP S f)) ?_)).trans rfl
    have hc : (lComp [5] (Tg.nm 5) (iF walkD (eVar 1)) tYesR (eN tupD (aC (eCall m__law_place (aC (eVar 0) (aC (Pyr.e2 atD (eVar 5) (eC (.int 0))) a0))) (aC (Pyr.e2 atD (eVar 5) (eC (.int 1))) a0)))) (purE [.val (.list (S.map tbD)), .val (.list (fs.map ftD)), .own (.lst []), .emp, .emp, .emp]) = .ok (fs.map fun f => prD (keyP S f)) := by
      refine lComp_ok (ds := fs.map ftD) rfl (by rw [List.length_map]; omega) (compF_en _ _ _ fun f hf => ⟨_, rfl, rfl, ?_⟩)
      have hp := lplace_run S f.1 (by omega)
      simp -implicitDefEqProofs (disch := omega) only [Pyr.run_flI, Pyr.run_flB, Pyr.run_flS, Pyr.run_flN, Pyr.sSeq, Pyr.sKill, Pyr.run_kill0, Pyr.run_killS, Pyr.sIf, Pyr.sSet, Pyr.sSetL, Pyr.sRet, Pyr.sRetL, Pyr.sRetN, Pyr.sRetO, Pyr.sDrop, Pyr.sApp, Pyr.sNext, Pyr.sFrz, Pyr.sSetT, Pyr.tgF, Pyr.setsF, Pyr.evP, Pyr.evL, Pyr.evT, Pyr.bare, Pyr.eC, Pyr.e1, Pyr.e2, Pyr.eN, Pyr.aC, Pyr.a0, Pyr.eIf, Pyr.eAnd, Pyr.eOr, Pyr.eNot, Pyr.eChain, Pyr.tE, Pyr.tNotR, Pyr.tAndR, Pyr.tOrR, Pyr.eCall, Pyr.lCall, Pyr.iF, Pyr.iF2, Pyr.lN, Pyr.lF, Pyr.eFs, Pyr.jC, Pyr.j0, Pyr.eIxV, Pyr.ownI, Pyr.lAdd, Pyr.sExt, Pyr.sPop, Pyr.trF, Pyr.trsF, Trs.len, Pyr.run_max2, Pyr.run_min2, Pyr.backD, Pyr.eSlice, Pyr.oNone, Pyr.oSome, Pyr.optI, Pyr.lSlice, Pyr.listD, eL, Pyr.eB, Pyr.oneD, Pyr.oneL, Pyr.itemsD, Pyr.outR, Pyr.ownD, Pyr.RV.d, Pyr.tupD, Pyr.run_mul, Pyr.run_mulS, Pyr.run_add, Pyr.run_sub, Pyr.run_addS, Pyr.run_mod, Pyr.run_fdiv, Pyr.run_lt, Pyr.run_le, Pyr.run_gt, Pyr.run_ge, Pyr.run_lenL, Pyr.run_lenT, Pyr.run_lenS, Pyr.run_int, Pyr.run_bool, Pyr.run_truB, Pyr.run_truL, Pyr.run_pur1, Pyr.run_frz1, Pyr.run_pSv, Pyr.run_pSo, Pyr.run_pSe, Pyr.run_fSv, Pyr.run_fSo, Pyr.run_fSe, Pyr.run_pur0, Pyr.run_frz0, Pyr.run_v0n, Pyr.run_v0b, Pyr.run_v0i, Pyr.run_v0s, Pyr.run_v0l, Pyr.run_v0t, Pyr.run_v0o, Pyr.run_vN, Pyr.run_vS, Pyr.run_bad, Pyr.run_exc, Pyr.run_map, Pyr.run_okL, List.length_cons, List.length_nil, Pyr.bind_ok, List.set_cons_zero, List.set_cons_succ, List.getElem?_cons_zero, List.getElem?_cons_succ, Pyr.eqD_int, Pyr.eqD_str, Pyr.neD_int, Pyr.neD_str, if_true, if_false, Bool.not_true, Bool.not_false, Bool.false_eq_true, decide_true, decide_false, Pyr.run_atT0, Pyr.run_atT1, Pyr.run_atT2, Pyr.run_atT3, Pyr.run_atT4, Pyr.run_atL0, Pyr.run_atL1, Pyr.run_atL2, Pyr.run_atL3, Pyr.run_atL4, Pyr.isi_str_n, Pyr.isi_str_b, Pyr.isi_str_i, Pyr.isi_str_s, Pyr.isi_str_l, Pyr.isi_str_t, Pyr.isi_str_d, Pyr.isi_int_n, Pyr.isi_int_b, Pyr.isi_int_i, Pyr.isi_int_s, Pyr.isi_int_l, Pyr.isi_int_t, Pyr.isi_int_d, Pyr.isi_bool_n, Pyr.isi_bool_b, Pyr.isi_bool_i, Pyr.isi_bool_s, Pyr.isi_bool_l, Pyr.isi_bool_t, Pyr.isi_bool_d, Pyr.isi_list_n, Pyr.isi_list_b, Pyr.isi_list_i, Pyr.isi_list_s, Pyr.isi_list_l, Pyr.isi_list_t, Pyr.isi_list_d, Pyr.isi_tuple_n, Pyr.isi_tuple_b, Pyr.isi_tuple_i, Pyr.isi_tuple_s, Pyr.isi_tuple_l, Pyr.isi_tuple_t, Pyr.isi_tuple_d, Pyr.isi_dict_n, Pyr.isi_dict_b, Pyr.isi_dict_i, Pyr.isi_dict_s, Pyr.isi_dict_l, Pyr.isi_dict_t, Pyr.isi_dict_d, Nat.reduceAdd, Int.cast_ofNat_Int, Int.natCast_zero, Int.natCast_one, Int.reduceEq, Int.reduceLT, Int.reduceLE, Int.reduceAdd, Int.reduceSub, Int.reduceMul, Int.reduceNeg, Int.reduceNe, Nat.zero_add, reduceIte, decide_eq_true_eq, beq_self_eq_true, eq_self, Bool.true_or, Bool.or_true, Bool.and_true, Bool.true_and, Bool.false_or, Bool.or_false, Bool.and_false, Bool.false_and, wipeE, tgE, v0_ft, ft_0, ft_1, hp]
      rfl
    show ((((lComp [5] (Tg.nm 5) (iF walkD (eVar 1)) tYesR _ _).map PyData.list).bind fun x => Res.ok [x]).bind (oneL sortL)) = _
    rw [hc]
    show sortL (.list (fs.map fun f => prD (keyP S f))) = _
    have : sortC ((fs.map (keyP S)).map prD) = true := sort_pr _ (by rw [List.length_map]; omega)
    rw [List.map_map] at this
    rw [sortL_ok (ds := fs.map fun f => prD (keyP S f)) this, ← hsort]
  obtain ⟨e, i⟩ := forF_fold (t := Tg.tp [3, 4]) (F := B__law_ascending_0) (fun f => prD (keyP S f)) (fun acc : List Ft => [.val (.list (S.map tbD)), .val (.list (fs.map ftD)), .own (.lst (acc.map ftD)), .emp, .emp, .emp]) dstep (fun acc => (∀ f ∈ acc, f ∈ fs) ∧ acc.Nodup) (fs.mergeSort (leF S)) [] ⟨(fun f h => nomatch h), List.nodup_nil⟩ fun acc f hf' ⟨i1, i2⟩ => by
    have hm := perm.mem_iff.mp hf'
    obtain ⟨ok, t, ht, en⟩ := h f hm
    obtain ⟨k, hk⟩ := plc_in ⟨t, ht, en⟩
    obtain ⟨hk1, hk2⟩ := plc_some hk
    have ek : (keyP S f).1 = k := by unfold keyP; rw [hk]; rfl
    have ni : notInD (ftD f) (.list (acc.map ftD)) = .ok (.bool (!decide (f ∈ acc))) := ftE.notInD (fun g hg => (h g (i1 g hg)).1) ok
    have ni : notInD (.tuple [.str f.1, .tuple ((keyP S f).2.map .str)]) (.list (acc.map ftD)) = .ok (.bool (!decide (f ∈ acc))) := ni
    have hat : atD (.list (S.map tbD)) (.int ((keyP S f).1 : Int)) = .ok (tbD S[k]) := by rw [ek]; exact tb_at hk1
    have hl : acc.length ≤ 10000 := Nat.le_trans (nodup_le acc fs i2 i1) hf
    have la : (acc.map ftD).length = acc.length := List.length_map _
    by_cases q : f ∈ acc
    · rw [show dstep acc f = acc from if_pos q]
      refine ⟨⟨_, rfl, .inl ?_⟩, i1, i2⟩
      unfold B__law_ascending_0
      simp -implicitDefEqProofs (disch := omega) only [Pyr.run_flI, Pyr.run_flB, Pyr.run_flS, Pyr.run_flN, Pyr.sSeq, Pyr.sKill, Pyr.run_kill0, Pyr.run_killS, Pyr.sIf, Pyr.sSet, Pyr.sSetL, Pyr.sRet, Pyr.sRetL, Pyr.sRetN, Pyr.sRetO, Pyr.sDrop, Pyr.sApp, Pyr.sNext, Pyr.sFrz, Pyr.sSetT, Pyr.tgF, Pyr.setsF, Pyr.evP, Pyr.evL, Pyr.evT, Pyr.bare, Pyr.eC, Pyr.e1, Pyr.e2, Pyr.eN, Pyr.aC, Pyr.a0, Pyr.eIf, Pyr.eAnd, Pyr.eOr, Pyr.eNot, Pyr.eChain, Pyr.tE, Pyr.tNotR, Pyr.tAndR, Pyr.tOrR, Pyr.eCall, Pyr.lCall, Pyr.iF, Pyr.iF2, Pyr.lN, Pyr.lF, Pyr.eFs, Pyr.jC, Pyr.j0, Pyr.eIxV, Pyr.ownI, Pyr.lAdd, Pyr.sExt, Pyr.sPop, Pyr.trF, Pyr.trsF, Trs.len, Pyr.run_max2, Pyr.run_min2, Pyr.backD, Pyr.eSlice, Pyr.oNone, Pyr.oSome, Pyr.optI, Pyr.lSlice, Pyr.listD, eL, Pyr.eB, Pyr.oneD, Pyr.oneL, Pyr.itemsD, Pyr.outR, Pyr.ownD, Pyr.RV.d, Pyr.tupD, Pyr.run_mul, Pyr.run_mulS, Pyr.run_add, Pyr.run_sub, Pyr.run_addS, Pyr.run_mod, Pyr.run_fdiv, Pyr.run_lt, Pyr.run_le, Pyr.run_gt, Pyr.run_ge, Pyr.run_lenL, Pyr.run_lenT, Pyr.run_lenS, Pyr.run_int, Pyr.run_bool, Pyr.run_truB, Pyr.run_truL, Pyr.run_pur1, Pyr.run_frz1, Pyr.run_pSv, Pyr.run_pSo, Pyr.run_pSe, Pyr.run_fSv, Pyr.run_fSo, Pyr.run_fSe, Pyr.run_pur0, Pyr.run_frz0, Pyr.run_v0n, Pyr.run_v0b, Pyr.run_v0i, Pyr.run_v0s, Pyr.run_v0l, Pyr.run_v0t, Pyr.run_v0o, Pyr.run_vN, Pyr.run_vS, Pyr.run_bad, Pyr.run_exc, Pyr.run_map, Pyr.run_okL, List.length_cons, List.length_nil, Pyr.bind_ok, List.set_cons_zero, List.set_cons_succ, List.getElem?_cons_zero, List.getElem?_cons_succ, Pyr.eqD_int, Pyr.eqD_str, Pyr.neD_int, Pyr.neD_str, if_true, if_false, Bool.not_true, Bool.not_false, Bool.false_eq_true, decide_true, decide_false, Pyr.run_atT0, Pyr.run_atT1, Pyr.run_atT2, Pyr.run_atT3, Pyr.run_atT4, Pyr.run_atL0, Pyr.run_atL1, Pyr.run_atL2, Pyr.run_atL3, Pyr.run_atL4, Pyr.isi_str_n, Pyr.isi_str_b, Pyr.isi_str_i, Pyr.isi_str_s, Pyr.isi_str_l, Pyr.isi_str_t, Pyr.isi_str_d, Pyr.isi_int_n, Pyr.isi_int_b, Pyr.isi_int_i, Pyr.isi_int_s, Pyr.isi_int_l, Pyr.isi_int_t, Pyr.isi_int_d, Pyr.isi_bool_n, Pyr.isi_bool_b, Pyr.isi_bool_i, Pyr.isi_bool_s, Pyr.isi_bool_l, Pyr.isi_bool_t, Pyr.isi_bool_d, Pyr.isi_list_n, Pyr.isi_list_b, Pyr.isi_list_i, Pyr.isi_list_s, Pyr.isi_list_l, Pyr.isi_list_t, Pyr.isi_list_d, Pyr.isi_tuple_n, Pyr.isi_tuple_b, Pyr.isi_tuple_i, Pyr.isi_tuple_s, Pyr.isi_tuple_l, Pyr.isi_tuple_t, Pyr.isi_tuple_d, Pyr.isi_dict_n, Pyr.isi_dict_b, Pyr.isi_dict_i, Pyr.isi_dict_s, Pyr.isi_dict_l, Pyr.isi_dict_t, Pyr.isi_dict_d, Nat.reduceAdd, Int.cast_ofNat_Int, Int.natCast_zero, Int.natCast_one, Int.reduceEq, Int.reduceLT, Int.reduceLE, Int.reduceAdd, Int.reduceSub, Int.reduceMul, Int.reduceNeg, Int.reduceNe, Nat.zero_add, reduceIte, decide_eq_true_eq, beq_self_eq_true, eq_self, Bool.true_or, Bool.or_true, Bool.and_true, Bool.true_and, Bool.false_or, Bool.or_false, Bool.and_false, Bool.false_and, setsF, hat, tb_0, hk2, ni, q]
    · rw [show dstep acc f = acc ++ [f] from if_neg q]
      refine ⟨⟨_, rfl, .inl ?_⟩, fun g hg => ?_, ?_⟩
      · unfold B__law_ascending_0
        simp -implicitDefEqProofs (disch := omega) only [Pyr.run_flI, Pyr.run_flB, Pyr.run_flS, Pyr.run_flN, Pyr.sSeq, Pyr.sKill, Pyr.run_kill0, Pyr.run_killS, Pyr.sIf, Pyr.sSet, Pyr.sSetL, Pyr.sRet, Pyr.sRetL, Pyr.sRetN, Pyr.sRetO, Pyr.sDrop, Pyr.sApp, Pyr.sNext, Pyr.sFrz, Pyr.sSetT, Pyr.tgF, Pyr.setsF, Pyr.evP, Pyr.evL, Pyr.evT, Pyr.bare, Pyr.eC, Pyr.e1, Pyr.e2, Pyr.eN, Pyr.aC, Pyr.a0, Pyr.eIf, Pyr.eAnd, Pyr.eOr, Pyr.eNot, Pyr.eChain, Pyr.tE, Pyr.tNotR, Pyr.tAndR, Pyr.tOrR, Pyr.eCall, Pyr.lCall, Pyr.iF, Pyr.iF2, Pyr.lN, Pyr.lF, Pyr.eFs, Pyr.jC, Pyr.j0, Pyr.eIxV, Pyr.ownI, Pyr.lAdd, Pyr.sExt, Pyr.sPop, Pyr.trF, Pyr.trsF, Trs.len, Pyr.run_max2, Pyr.run_min2, Pyr.backD, Pyr.eSlice, Pyr.oNone, Pyr.oSome, Pyr.optI, Pyr.lSlice, Pyr.listD, eL, Pyr.eB, Pyr.oneD, Pyr.oneL, Pyr.itemsD, Pyr.outR, Pyr.ownD, Pyr.RV.d, Pyr.tupD, Pyr.run_mul, Pyr.run_mulS, Pyr.run_add, Pyr.run_sub, Pyr.run_addS, Pyr.run_mod, Pyr.run_fdiv, Pyr.run_lt, Pyr.run_le, Pyr.run_gt, Pyr.run_ge, Pyr.run_lenL, Pyr.run_lenT, Pyr.run_lenS, Pyr.run_int, Pyr.run_bool, Pyr.run_truB, Pyr.run_truL, Pyr.run_pur1, Pyr.run_frz1, Pyr.run_pSv, Pyr.run_pSo, Pyr.run_pSe, Pyr.run_fSv, Pyr.run_fSo, Pyr.run_fSe, Pyr.run_pur0, Pyr.run_frz0, Pyr.run_v0n, Pyr.run_v0b, Pyr.run_v0i, Pyr.run_v0s, Pyr.run_v0l, Pyr.run_v0t, Pyr.run_v0o, Pyr.run_vN, Pyr.run_vS, Pyr.run_bad, Pyr.run_exc, Pyr.run_map, Pyr.run_okL, List.length_cons, List.length_nil, Pyr.bind_ok, List.set_cons_zero, List.set_cons_succ, List.getElem?_cons_zero, List.getElem?_cons_succ, Pyr.eqD_int, Pyr.eqD_str, Pyr.neD_int, Pyr.neD_str, if_true, if_false, Bool.not_true, Bool.not_false, Bool.false_eq_true, decide_true, decide_false, Pyr.run_atT0, Pyr.run_atT1, Pyr.run_atT2, Pyr.run_atT3, Pyr.run_atT4, Pyr.run_atL0, Pyr.run_atL1, Pyr.run_atL2, Pyr.run_atL3, Pyr.run_atL4, Pyr.isi_str_n, Pyr.isi_str_b, Pyr.isi_str_i, Pyr.isi_str_s, Pyr.isi_str_l, Pyr.isi_str_t, Pyr.isi_str_d, Pyr.isi_int_n, Pyr.isi_int_b, Pyr.isi_int_i, Pyr.isi_int_s, Pyr.isi_int_l, Pyr.isi_int_t, Pyr.isi_int_d, Pyr.isi_bool_n, Pyr.isi_bool_b, Pyr.isi_bool_i, Pyr.isi_bool_s, Pyr.isi_bool_l, Pyr.isi_bool_t, Pyr.isi_bool_d, Pyr.isi_list_n, Pyr.isi_list_b, Pyr.isi_list_i, Pyr.isi_list_s, Pyr.isi_list_l, Pyr.isi_list_t, Pyr.isi_list_d, Pyr.isi_tuple_n, Pyr.isi_tuple_b, Pyr.isi_tuple_i, Pyr.isi_tuple_s, Pyr.isi_tuple_l, Pyr.isi_tuple_t, Pyr.isi_tuple_d, Pyr.isi_dict_n, Pyr.isi_dict_b, Pyr.isi_dict_i, Pyr.isi_dict_s, Pyr.isi_dict_l, Pyr.isi_dict_t, Pyr.isi_dict_d, Nat.reduceAdd, Int.cast_ofNat_Int, Int.natCast_zero, Int.natCast_one, Int.reduceEq, Int.reduceLT, Int.reduceLE, Int.reduceAdd, Int.reduceSub, Int.reduceMul, Int.reduceNeg, Int.reduceNe, Nat.zero_add, reduceIte, decide_eq_true_eq, beq_self_eq_true, eq_self, Bool.true_or, Bool.or_true, Bool.and_true, Bool.true_and, Bool.false_or, Bool.or_false, Bool.and_false, Bool.false_and, setsF, hat, tb_0, hk2, ni, q, la, List.map_append, List.map_cons, List.map_nil]
        rfl
      · rcases List.mem_append.mp hg with hg | hg
        · exact i1 g hg
        · rw [List.mem_singleton.mp hg]
          exact hm
      · exact List.nodup_append.mpr ⟨i2, by simp, fun a ha b hb => by rw [List.mem_singleton.mp hb]; exact fun e => q (e ▸ ha)⟩
  show outR (sSeq (sFor (Tg.tp [3, 4]) _ B__law_ascending_0) _ [.val (.list (S.map tbD)), .val (.list (fs.map ftD)), .own (.lst []), .emp, .emp, .emp]) = _
  rw [seq_ok ((for_ok hit).trans e)]
  rfl
theorem dstep_mem {α : Type} [DecidableEq α] (acc : List α) (f x : α) : x ∈ dstep acc f ↔ x ∈ acc ∨ x = f := by
  unfold dstep
  split
  · rename_i h
    exact ⟨.inl, fun z => z.elim id fun e => e ▸ h⟩
  · rw [List.mem_append, List.mem_singleton]
theorem foldl_mem {α : Type} [DecidableEq α] : ∀ (xs acc : List α) (x : α), x ∈ xs.foldl dstep acc ↔ x ∈ acc ∨ x ∈ xs
  | [], acc, x => by simp
  | f :: xs, acc, x => by
    rw [List.foldl_cons, foldl_mem xs, dstep_mem, List.mem_cons]
    exact ⟨fun h => h.elim (fun h => h.elim .inl fun h => .inr (.inl h)) fun h => .inr (.inr h), fun h => h.elim (fun h => .inl (.inl h)) fun h => h.elim (fun h => .inl (.inr h)) .inr⟩
theorem foldl_nodup {α : Type} [DecidableEq α] : ∀ (xs acc : List α), acc.Nodup → (xs.foldl dstep acc).Nodup
  | [], acc, h => h
  | f :: xs, acc, h => by
    rw [List.foldl_cons]
    refine foldl_nodup xs _ ?_
    unfold dstep
    split
    · exact h
    · rename_i q
      exact List.nodup_append.mpr ⟨h, by simp, fun a ha b hb => by rw [List.mem_singleton.mp hb]; exact fun e => q (e ▸ ha)⟩
theorem ddp_mem {α : Type} [DecidableEq α] {xs : List α} {x : α} : x ∈ ddp xs ↔ x ∈ xs := by
  unfold ddp
  rw [foldl_mem]
  simp
theorem ddp_nodup {α : Type} [DecidableEq α] (xs : List α) : (ddp xs).Nodup := foldl_nodup xs [] List.nodup_nil
theorem asc_mem {S : List Tb} {fs : List Ft} {f : Ft} : f ∈ ascF S fs ↔ f ∈ fs := ddp_mem.trans (List.mergeSort_perm fs (leF S)).mem_iff
theorem asc_nodup (S : List Tb) (fs : List Ft) : (ascF S fs).Nodup := ddp_nodup _
theorem asc_le (S : List Tb) (fs : List Ft) : (ascF S fs).length ≤ fs.length := nodup_le _ _ (asc_nodup S fs) fun _ h => asc_mem.mp h
end
end Com2

set_option Elab.async false
set_option autoImplicit false
set_option linter.all false
set_option maxRecDepth 100000
set_option maxHeartbeats 4000000
/-! sorted(a set of keys) -/
namespace Pyr
open PySem PySem.Spec PyProof.Rows L2 Evl
mutual
theorem keyB_flat : ∀ x : D, keyB x = true → flatD x = true
  | .int _, _ => rfl
  | .str _, _ => rfl
  | .tuple ds, h => keysB_flat ds h
  | .none, h => rfl
  | .bool _, h => rfl
  | .list _, h => by simp [keyB] at h
  | .dict _, h => by simp [keyB] at h
theorem keysB_flat : ∀ xs : List D, keysB xs = true → flatsD xs = true
  | [], _ => rfl
  | x :: xs, h => by
    rw [keysB, Bool.and_eq_true] at h
    rw [flatsD, keyB_flat x h.1, keysB_flat xs h.2]
    rfl
end
mutual
theorem keyB_noB : ∀ x : D, keyB x = true → noB x = true
  | .int _, _ => rfl
  | .str _, _ => rfl
  | .tuple ds, h => keysB_noB ds h
  | .none, h => rfl
  | .bool _, h => by simp [keyB] at h
  | .list _, h => by simp [keyB] at h
  | .dict _, h => by simp [keyB] at h
theorem keysB_noB : ∀ xs : List D, keysB xs = true → noBs xs = true
  | [], _ => rfl
  | x :: xs, h => by
    rw [keysB, Bool.and_eq_true] at h
    rw [noBs, keyB_noB x h.1, keysB_noB xs h.2]
    rfl
end
theorem keysB_of : ∀ {ds : List D}, (∀ d ∈ ds, keyB d = true) → keysB ds = true
  | [], _ => rfl
  | d :: ds, h => by rw [keysB, h d List.mem_cons_self, keysB_of fun e he => h e (List.mem_cons_of_mem _ he)]; rfl
theorem keysB_app {xs ys : List D} : keysB (xs ++ ys) = (keysB xs && keysB ys) := by
  induction xs with
  | nil => rfl
  | cons x xs ih =>
    show (keyB x && keysB (xs ++ ys)) = _
    rw [ih, ← Bool.and_assoc]
    rfl
/-- each of them once -/
def uniqD : List D → List D
  | [] => []
  | d :: ds => if ds.any (fun e => decide (nk e = nk d)) then uniqD ds else d :: uniqD ds
theorem uniq_sub : ∀ {ds : List D} {d : D}, d ∈ uniqD ds → d ∈ ds
  | _ :: ds, d, h => by
    rw [uniqD] at h
    split at h
    · exact List.mem_cons_of_mem _ (uniq_sub h)
    · cases h with
      | head => exact List.mem_cons_self
      | tail _ h => exact List.mem_cons_of_mem _ (uniq_sub h)
theorem uniq_mem : ∀ {ds : List D} {d : D}, keysB ds = true → (d ∈ uniqD ds ↔ d ∈ ds)
  | [], _, _ => Iff.rfl
  | x :: ds, d, k => by
    have k' := k
    rw [keysB, Bool.and_eq_true] at k'
    refine ⟨uniq_sub, fun h => ?_⟩
    rw [uniqD]
    split
    · rename_i hx
      obtain ⟨e, he, eq⟩ := List.any_eq_true.mp hx
      have := nk_inj e x (keysB_mem k'.2 e he) k'.1 (of_decide_eq_true eq)
      cases h with
      | head => exact (uniq_mem k'.2).mpr (this ▸ he)
      | tail _ h => exact (uniq_mem k'.2).mpr h
    · cases h with
      | head => exact List.mem_cons_self
      | tail _ h => exact List.mem_cons_of_mem _ ((uniq_mem k'.2).mpr h)
theorem uniq_nodup : ∀ ds : List D, (uniqD ds).Nodup
  | [] => List.nodup_nil
  | x :: ds => by
    rw [uniqD]
    split
    · exact uniq_nodup ds
    · rename_i hx
      refine List.nodup_cons.mpr ⟨fun h => hx ?_, uniq_nodup ds⟩
      exact List.any_eq_true.mpr ⟨x, uniq_sub h, by simp⟩
def setC (ds : List D) : Bool := keysB ds && alikeB ds && ds.all tupB && ds.all (fun d => decide (d.depth ≤ 8)) && decide (ds.length ≤ 63)
/-- sorted({..}) -/
def sortS (ds : List D) : Res (List D) := if setC ds then .ok ((uniqD ds).mergeSort (PySem.W.dataLe false id)) else .bad
theorem perm_map {α β : Type} (f : α → β) : ∀ {vs ws : List β}, vs.Perm ws → ∀ L : List α, ws = L.map f → ∃ L1 : List α, L1.Perm L ∧ vs = L1.map f := by
  intro vs ws p
  induction p with
  | nil => intro L e; exact ⟨L, .refl _, e⟩
  | cons x _ ih =>
    intro L e
    cases L with
    | nil => cases e
    | cons y L =>
      rw [List.map_cons] at e
      injection e with e1 e2
      obtain ⟨L1, p1, q⟩ := ih L e2
      exact ⟨y :: L1, .cons _ p1, by rw [List.map_cons, q, e1]⟩
  | swap x y l =>
    intro L e
    match L, e with
    | a :: b :: L, e =>
      simp only [List.map_cons, List.cons.injEq] at e
      exact ⟨b :: a :: L, .swap _ _ _, by simp only [List.map_cons]; rw [e.1, e.2.1, e.2.2]⟩
  | trans _ _ ih1 ih2 =>
    intro L e
    obtain ⟨L1, p1, q1⟩ := ih2 L e
    obtain ⟨L2, p2, q2⟩ := ih1 L1 q1
    exact ⟨L2, p2.trans p1, q2⟩
section
variable {K : PySem.W.Frag} {G : Hp}
theorem picks {ps : List (Addr × NestedKey)} {ds : List D} (r : Rps K G (ps.map fun e => V.ref e.1) ds) (hk : nks ds = ps.map (·.2)) : ∀ L1 : List (Addr × NestedKey), (∀ e ∈ L1, e ∈ ps) →
    ∃ bs : List D, PySem.W.EachIs (RVD K G) (L1.map fun e => Value.ref e.1) bs ∧ nks bs = L1.map (·.2) ∧ ∀ d ∈ bs, d ∈ ds
  | [], _ => ⟨[], .nil, rfl, fun d h => (by cases h)⟩
  | e :: L1, h => by
    obtain ⟨bs, b1, b2, b3⟩ := picks r hk L1 fun f hf => h f (List.mem_cons_of_mem _ hf)
    obtain ⟨d, d1, d2, d3⟩ := one_of r hk e (h e List.mem_cons_self)
    refine ⟨d :: bs, .cons ⟨.ref e.1, (show RelV (V.ref e.1) (Value.ref e.1) from rfl), d2⟩ b1, by rw [nks, b2, d3]; rfl, fun f hf => ?_⟩
    cases hf with
    | head => exact d1
    | tail _ hf => exact b3 f hf
theorem nodup_of_nks {bs : List D} (h : (nks bs).Nodup) : bs.Nodup := by
  rw [nks_map] at h
  exact nodup_of_map h
end
section
variable {X : Cx}
theorem cr_sortedK (C : CtE X) {a : Addr} {ps : List (Addr × NestedKey)} {ds : List D} {G H : Hp} {Q : VK} (hG : Ex G H) (ha : H a = some (keyO X.prog X.w a ps)) (r : Rps X.K G (ps.map fun e => V.ref e.1) ds) (hk : nks ds = ps.map (·.2)) (hc : setC ds = true)
    (q : ∀ p vs, H p = none → Rps X.K G vs ((uniqD ds).mergeSort (PySem.W.dataLe false id)) → Q (.ref p) (upd H p (.lst vs))) : wpC X (.builtin "sorted") [.ref a] H Q := by
  intro pins s σ us I rv
  rw [Vals.ref1 rv]
  unfold setC at hc
  simp only [Bool.and_eq_true, decide_eq_true_eq] at hc
  obtain ⟨⟨⟨⟨kb, al⟩, so⟩, dp⟩, len⟩ := hc
  have dp' : ∀ d ∈ ds, d.depth ≤ 8 := fun d hd => of_decide_eq_true (List.all_eq_true.mp dp d hd)
  have kin := keys_in I (r.mono hG) hk kb dp'
  obtain ⟨L, es, ep, t, R, sub, all⟩ := (keyO_get I ha).full kin
  obtain ⟨o, ho, hex, hd⟩ := id R.here
  have few := R.few
  have esz := ent_len R.cont
  refine Calls.call_function_entry kind_sorted plain_sorted entry_sorted (args_sorted1 _) ?_
  unfold Builtin.«sorted»
  refine wpAny_bind (m := checkCount "sorted" 1 1 _) (wpAny_pure ?_)
  refine wpAny_bind (collect_set (A := X.A.in1) (by simpa using I.ok.hd C.calm) ⟨o, ho, hex.1, hd⟩ R.fit (by unfold scanBound; omega) R.tab.ris R.made fun s1 vs kp hz g1 o1 pm => ?_)
  have vals : es.toList.map (·.2) = L.map fun e => Value.ref e.1 := by
    rw [R.cont, entN, List.map_map]
    rfl
  rw [vals] at pm
  obtain ⟨L1, pL, rfl⟩ := perm_map (fun e : Addr × NestedKey => Value.ref e.1) pm L rfl
  obtain ⟨bs, b1, b2, b3⟩ := picks r hk L1 fun e he => sub e (pL.mem_iff.mp he)
  have bmem : ∀ d, d ∈ bs ↔ d ∈ ds := fun d => ⟨b3 d, fun h => by
    have h1 : nk d ∈ nks ds := by rw [nks_map]; exact List.mem_map.mpr ⟨d, h, rfl⟩
    rw [hk] at h1
    obtain ⟨e, he, ee⟩ := List.mem_map.mp h1
    have h2 := ((pL.map (·.2)).mem_iff).mpr (all e he)
    rw [← b2, nks_map, ee] at h2
    obtain ⟨d', hd', e'⟩ := List.mem_map.mp h2
    rw [← nk_inj d' d (keysB_mem kb d' (b3 d' hd')) (keysB_mem kb d h) e']
    exact hd'⟩
  have bnd : bs.Nodup := nodup_of_nks (by rw [b2]; exact (pL.map (·.2)).nodup_iff.mpr R.once)
  have bu : bs.Perm (uniqD ds) := (List.perm_ext_iff_of_nodup bnd (uniq_nodup ds)).mpr fun d => (bmem d).trans (uniq_mem kb).symm
  have al2 : PySem.W.AllAlike bs := fun d hd e he => alike_of al d (b3 d hd) e (b3 e he)
  have so2 : PySem.W.Sortable bs := by
    rcases sortable_of (by unfold sortableB; rw [so]; rfl) with z | z
    · exact .inl fun d hd => z d (b3 d hd)
    · exact .inr fun d hd => z d (b3 d hd)
  have srt : bs.mergeSort (PySem.W.dataLe false id) = (uniqD ds).mergeSort (PySem.W.dataLe false id) := by
    refine sort_unique (fun x hx y hy => al2 x ((List.mergeSort_perm _ _).mem_iff.mp hx) y ((List.mergeSort_perm _ _).mem_iff.mp hy)) (fun x hx => keyB_noB x (keysB_mem kb x (b3 x ((List.mergeSort_perm _ _).mem_iff.mp hx)))) ((List.mergeSort_perm _ _).trans (bu.trans (List.mergeSort_perm _ _).symm)) ?_ ?_
    · exact List.pairwise_mergeSort dle_trans dle_total _
    · exact List.pairwise_mergeSort dle_trans dle_total _
  generalize hvs : (L1.map fun e => Value.ref e.1) = vs at b1 pm
  have blen : bs.length = vs.length := b1.length.symm
  have vlen : vs.length < 64 := by rw [← hvs, List.length_map, pL.length_eq]; exact few
  refine wpAny_bind (wpAny_newList ?_ (by rw [sizeLine_eq]; omega))
  have hoL : (s1.heap.push (seqObj "list" vs.toArray 0)).get? s1.heap.objs.size = some (seqObj "list" vs.toArray 0) := Heap.get?_push_size _ rfl
  have er : PySem.W.EachIs (fun u d => ∃ as, Reads (PySem.W.sortingHeap (s1.heap.push (seqObj "list" vs.toArray 0)) s1.heap.objs.size vs) u d as) vs bs := (PySem.W.each_mem b1).mono fun u d ⟨⟨v, r1, r2⟩, hb⟩ => by
    have fl := keyB_flat d (keysB_mem kb d (b3 d hb))
    obtain ⟨as, ra⟩ := Dp.reads I d v u ((r2.mono hG).dp fl) r1
    refine ⟨as, PyProof.Rows.Reads.keeps (fun b u e => ?_) ra⟩
    have e1 := kp b u e
    have lt := Heap.lt_size e1
    exact PySem.W.sortingHeap_old (Nat.ne_of_lt lt) (Heap.get?_push_of_some _ e1)
  refine wpAny_bind (wpAny_holding ?_)
  refine wpAny_call_entry PyProof.Rows.slot_list_sort ⟨_, hoL, rfl⟩ PyProof.Rows.entry_list_sort (PySem.W.list_sort_vals (s := { s1 with heap := s1.heap.push (seqObj "list" vs.toArray 0) }) (κ := PySem.W.dataKind (PySem.W.sortingHeap (s1.heap.push (seqObj "list" vs.toArray 0)) s1.heap.objs.size vs) bs) hoL (PySem.W.SortsAt.data (s := { s1 with heap := PySem.W.sortingHeap (s1.heap.push (seqObj "list" vs.toArray 0)) s1.heap.objs.size vs }) er al2 so2 ?_) (by rw [sizeLine_eq]; omega) ⟨.none, rfl, ?_⟩) (PyProof.Rows.args_list_sort _)
  · intro d hd
    have h1 := dp' d (b3 d hd)
    have h2 := C.un
    simp only [Around.in1_units]
    omega
  · generalize hout : PySem.W.sortVals (PySem.W.dataKind (PySem.W.sortingHeap (s1.heap.push (seqObj "list" vs.toArray 0)) s1.heap.objs.size vs) bs) false vs vs = out
    have hO : PySem.W.EachIs (RVD X.K G) out (bs.mergeSort (PySem.W.dataLe false id)) := by
      have z := PySem.W.sortVals_data (enc := id) (h' := PySem.W.sortingHeap (s1.heap.push (seqObj "list" vs.toArray 0)) s1.heap.objs.size vs) false b1 er (by rw [List.map_id]; exact al2)
      rw [List.map_id, hout] at z
      exact z
    rw [srt] at hO
    obtain ⟨ws, rw', rp⟩ := rvd_each hO
    obtain ⟨c, hc'⟩ := sortedHeap_at (vs := vs) (out := out.toArray) hoL
    have old : ∀ b o, s.heap.get? b = some o → (sortedHeap (s1.heap.push (seqObj "list" vs.toArray 0)) s1.heap.objs.size vs out.toArray).get? b = some o := fun b o e => by
      have e1 := kp b o e
      have lt := Heap.lt_size e1
      rw [sortedHeap_old (Nat.ne_of_lt lt) (by rw [Heap.size_push]; exact Nat.lt_succ_of_lt lt)]
      exact Heap.get?_push_of_some _ e1
    have ul : (uniqD ds).length ≤ 63 := by
      rw [← bu.length_eq]
      omega
    have wl : ws.length ≤ sizeLine := by
      rw [rp.len, List.length_mergeSort, sizeLine_eq]
      omega
    have hn : H s1.heap.objs.size = none := I.hok.fresh hz
    refine wpAny_pure ⟨_, rfl, ?_⟩
    have J : Inv X pins σ (upd H s1.heap.objs.size (.lst ws)) { s with heap := sortedHeap (s1.heap.push (seqObj "list" vs.toArray 0)) s1.heap.objs.size vs out.toArray, gens := s1.gens, drawn := s1.drawn, toks := s1.toks } :=
      I.call (ch := []) (Un.laid old hz hn) (I.hok.laid old hz ⟨wl, out, c, rw', hc'⟩) (by rw [g1]; exact I.bare) (fun _ z => nomatch z)
    rw [← o1] at J
    exact ⟨.ref s1.heap.objs.size, _, J, rfl, q _ ws hn rp⟩
end
end Pyr

set_option Elab.async false
set_option autoImplicit false
set_option linter.all false
set_option maxRecDepth 100000
set_option maxHeartbeats 4000000
/-! {e for x in xs if c}: a set of keys -/
namespace Pyr
open PySem PySem.Spec PyProof.Rows L2 Evl
/-- the members as data -/
structure Keyed (K : PySem.W.Frag) (H : Hp) (ps : List (Addr × NestedKey)) : Prop where
  ex : ∃ ds : List D, Rps K H (ps.map fun e => V.ref e.1) ds ∧ nks ds = ps.map (·.2) ∧ keysB ds = true ∧ ∀ d ∈ ds, d.depth ≤ 8
theorem Keyed.at {X : Cx} {pins : List (Addr × Obj)} {σ : L2.St} {H : Hp} {s : Shared} {ps : List (Addr × NestedKey)} (I : Inv X pins σ H s) (k : Keyed X.K H ps) : ∀ e ∈ ps, KAt s.heap e.2 e.1 := by
  obtain ⟨ds, r, hk, hb, hd⟩ := k.ex
  exact keys_in I r hk hb hd
/-- one put in -/
theorem add_ok {X : Cx} {pins : List (Addr × Obj)} {σ : L2.St} {H : Hp} {s : Shared} {E : Value → Shared → Prop} {l x : Addr} {k : NestedKey} {ps : List (Addr × NestedKey)} {Q : Value → Shared → Prop} (I : Inv X pins σ H s) (hu : X.A.units + 65 < cLine)
    (hl : H l = some (keyO X.prog X.w l ps)) (room : ps.length + 1 < 64) (kd : Keyed X.K H (ps ++ [(x, k)])) (q : ∀ u, Inv X pins σ (upd H l (keyO X.prog X.w l (ps ++ [(x, k)]))) u → Q .none u) :
    wpAny (model X.prog X.w) X.A (call (.builtin "set.add") [.ref l, .ref x]) Q E s := by
  have at' := kd.at I
  refine set_add (keyO_get I hl) (fun e he => at' e (List.mem_append_left _ he)) (at' (x, k) (List.mem_append_right _ List.mem_cons_self)) (by omega) room fun g tk sb S => ?_
  have there : ∃ u, g.get? l = some u := by
    obtain ⟨_, _, _, _, ⟨o, ho, _⟩, _⟩ := S.ex
    exact ⟨o, ho⟩
  exact q _ (I.write (e := l) (t' := tk) (by rw [hl]; exact True.intro) (.inl rfl) (fun b u nb hu => (sb.2 b nb).trans hu) there (keyO_ok S))
section
variable {X : Cx}
/-- what a turn must do, the new set at l -/
def tKc (X : Cx) (wi : TI) (g : TG) (tt : TT) (te : TE) (own : List Nat) : TE := fun σ H Q => wi σ H fun J H1 => ∀ l, H1 l = none → ∃ W : Nat → Nat → Hp → Prop, (∃ m, W 0 m (upd H1 l (keyO X.prog X.w l []))) ∧ ∀ i m H2, W i m H2 →
  (J.stop i H2 ∧ Q (.ref l) H2) ∨ (J.go i H2 ∧ ∃ Nx : Hp → Prop, (∀ H3, Nx H3 → ∃ m', m' < m ∧ W (i + 1) m' H3) ∧ ∀ v H3, J.yld i H2 v H3 → g v (wipe σ own) H3 fun σ2 H4 => wipe σ2 own = wipe σ own ∧ tt σ2 H4 fun b H5 =>
    if b = true then te σ2 H5 fun y H6 => ∃ (x : Addr) (k : NestedKey) (ps : List (Addr × NestedKey)), y = .ref x ∧ H6 l = some (keyO X.prog X.w l ps) ∧ ps.length + 1 < 64 ∧ Keyed X.K H6 (ps ++ [(x, k)]) ∧ Nx (upd H6 l (keyO X.prog X.w l (ps ++ [(x, k)]))) else Nx H5)
theorem pe_kc {elt tg iter : Expr} {ifs : List Expr} {scope : Scope} {own : List (PySem.Str × Nat)} {pos : Pos} {wi : TI} {g : TG} {tt : TT} {te : TE} (C : CtE X) (hi : PI X tg iter wi) (ok : BlkOk X.N X.env.scope scope own)
    (hg : ∀ (s : Shared) (H : Hp) (C : Addr) (cl : List (PySem.Str × Addr)) (fp : List Addr), PG (X.blk s H scope (compEnvC scope cl C X.env) fp) tg g) (ht : ∀ (s : Shared) (H : Hp) (C : Addr) (cl : List (PySem.Str × Addr)) (fp : List Addr), PTs (X.blk s H scope (compEnvC scope cl C X.env) fp) ifs tt)
    (he : ∀ (s : Shared) (H : Hp) (C : Addr) (cl : List (PySem.Str × Addr)) (fp : List Addr), PE (X.blk s H scope (compEnvC scope cl C X.env) fp) elt te) (hs : ∀ x, foldedSetIterable iter X.env x = pure x := by intro _; rfl) :
    PE X (.SetComp elt [⟨tg, iter, ifs, 0⟩] scope pos) (tKc X wi g tt te (own.map (·.2))) := by
  refine ⟨fun pins s σ H Q I h => ?_⟩
  rw [PpSet.eval_SetComp]
  have fr : ∀ y ∈ scope.names, y.2 = .free → ∃ c, X.env.cells.lookup y.1 = some c := fun y hy e => (ok.free y hy e).elim (fun z => I.ok.has _ (.inl z)) fun z => I.ok.has _ (.inr z)
  refine wpAny_comprehension_free (use := none) rfl hs (closure_ok fr) ok.kind (fun y hy e => by rw [ok.uniq y hy, e]) (thn (hi.run pins s σ H _ I h) fun _ _ hx => thn hx fun _ s1 ⟨it, fp, tn, J, H1, e, I1, T, t1, f1, q⟩ => ?_)
  subst e
  refine PpSet.newSet_ok (newEnv_comp ?_)
  have fresh : H1 s1.heap.objs.size = none := I1.hok.fresh (Nat.le_refl _)
  obtain ⟨W, ⟨m, w0⟩, turn⟩ := q _ fresh
  have I2 := I1.laid (t' := s1.toks) (fun b o e => Heap.get?_push_of_some { cls := .type "set", dict := none, data := .set #[] 0 (.fresh 0 0 (!X.w.params.followText "set-order")) } e) (Nat.le_refl _) (keyO_ok (P := X.prog) (keyS_fresh X.w s1.heap))
  have in1 : ∀ b ∈ fp, b < s1.heap.objs.size := fun b hb => let ⟨_, e, _⟩ := T.obj _ _ t1 b hb; Heap.lt_size e
  generalize hl : s1.heap.objs.size = l at fresh w0 turn I2 ⊢
  generalize hz : s1.heap.push { cls := .type "set", dict := none, data := .set #[] 0 (.fresh 0 0 (!X.w.params.followText "set-order")) } = z at I2 ⊢
  have zs : z.objs.size = l + 1 := by rw [← hz, Heap.size_push, hl]
  have zk : ∀ b o, s1.heap.get? b = some o → z.get? b = some o := fun b o e => by rw [← hz]; exact Heap.get?_push_of_some _ e
  generalize hs2 : ({ s1 with heap := z } : Shared) = s2
  have I2' : Inv X pins σ (upd H1 l (keyO X.prog X.w l [])) s2 := by rw [← hs2]; exact I2
  have s2h : s2.heap = z := by rw [← hs2]
  generalize hH2 : upd H1 l (keyO X.prog X.w l []) = H2 at I2' w0
  have f2 : ∀ b ∈ fp, FpOk X pins H2 b ∧ b < s2.heap.objs.size := fun b hb => by
    have lt := in1 b hb
    rw [hl] at lt
    rw [s2h, zs, ← hH2]
    refine ⟨⟨?_, (f1 b hb).2⟩, Nat.lt_succ_of_lt lt⟩
    rw [upd_ne (Nat.ne_of_lt lt)]
    exact (f1 b hb).1
  have t2 : tn 0 s2.heap := T.keep _ _ _ t1 fun b _ o e => by rw [s2h]; exact zk b o e
  have I3 := block_start I2' ok C.nd f2
  have pg := hg s2 H2 s2.heap.objs.size (cellsFrom (s2.heap.objs.size + 1) scope.names (cloFrom X.env.cells scope.names [])) fp
  have pt := ht s2 H2 s2.heap.objs.size (cellsFrom (s2.heap.objs.size + 1) scope.names (cloFrom X.env.cells scope.names [])) fp
  have pe := he s2 H2 s2.heap.objs.size (cellsFrom (s2.heap.objs.size + 1) scope.names (cloFrom X.env.cells scope.names [])) fp
  show codeAny _ _ (.compStart (.SetComp elt [⟨tg, iter, ifs, 0⟩] scope pos) 0 (.ref it) (.ref l) (compEnvC scope (cellsFrom (s2.heap.objs.size + 1) scope.names (cloFrom X.env.cells scope.names [])) s2.heap.objs.size X.env)) (compPost (model X.prog X.w) X.A X.xe none (EP X pins σ Q) (.ref l) s2.heap.objs.size) { s2 with heap := pushCells (s2.heap.push { cls := .type "dict", data := .dict #[] }) scope.names }
  have t3 : tn 0 ({ s2 with heap := pushCells (s2.heap.push { cls := .type "dict", data := .dict #[] }) scope.names } : Shared).heap := T.keep _ _ _ t2 fun b _ o e => pushCells_keeps _ _ _ _ (Heap.get?_push_of_some _ e)
  generalize hce : compEnvC scope (cellsFrom (s2.heap.objs.size + 1) scope.names (cloFrom X.env.cells scope.names [])) s2.heap.objs.size X.env = ce at I3 pg pt pe ⊢
  have cL : ce.locals = s2.heap.objs.size := by rw [← hce]; rfl
  generalize ({ s2 with heap := pushCells (s2.heap.push { cls := .type "dict", data := .dict #[] }) scope.names } : Shared) = s3 at I3 t3 ⊢
  have nofp : ∀ b ∈ fp, H2 b = none := fun b hb => (f2 b hb).1.1
  have still : ∀ {σ' : L2.St} {H' : Hp} {u : Shared}, Inv (X.blk s2 H2 scope ce fp) [] σ' H' u → (∀ b ∈ fp, H' b = none) → ∀ b ∈ fp, FpOk (X.blk s2 H2 scope ce fp) [] H' b := fun {σ' H' u} J nn b hb =>
    ⟨nn b hb, (J.ok.exf b hb).1, J.ok.exfs b hb, .inl hb, fun y c e => (J.ok.exf b hb).2 y c e, fun p hp => absurd (show p ∈ ([] : List (Addr × Obj)) ++ [] from hp) (by simp)⟩
  have loop : codeAny (model X.prog X.w) X.A (.compLoop (.SetComp elt [⟨tg, iter, ifs, 0⟩] scope pos) 0 (.ref it) (.ref l) ce) (compPost (model X.prog X.w) X.A X.xe none (EP X pins σ Q) (.ref l) s2.heap.objs.size) s3 := by
    refine PpSet.compLoopS_any (fun n u => ∃ i H', Inv (X.blk s2 H2 scope ce fp) [] (wipe σ (own.map (·.2))) H' u ∧ tn i u.heap ∧ (∀ b ∈ fp, H' b = none) ∧ W i n H') (fun n u ⟨i, Hi, Ii, ti, ni, wi⟩ => ?_) m ⟨0, H2, I3, t3, nofp, w0⟩
    rcases turn i n Hi wi with ⟨stop, fin⟩ | ⟨go, Nx, less, step⟩
    · refine thnF (T.done (X.blk s2 H2 scope ce fp) rfl rfl rfl C.calm i [] u _ Hi (fun _ _ => False) Ii (still Ii ni) ti stop) fun r u1 ⟨hr, J⟩ => ?_
      subst hr
      have back : Inv X pins σ Hi u1 := I2'.call' (ch := fp) J.os J.base J.hok J.bare fun b hb => ⟨(f2 b hb).1.2.2.2.1, (f2 b hb).1.2.1, (f2 b hb).1.2.2.2.2.1, (f2 b hb).1.2.2.2.2.2⟩
      have nC : Hi s2.heap.objs.size = none := by
        have q : Hi ce.locals = none := J.free
        rwa [cL] at q
      obtain ⟨mm, hm, _⟩ := J.loc
      have hm : u1.heap.Ns ce.locals mm := hm
      rw [cL] at hm
      obtain ⟨z0, z1, z2, z3, z4, z5⟩ := I2'.fpOk (Nat.le_refl _) nC
      exact ⟨mm, hm, fun g sb => ⟨.ref l, Hi, back.turned (t' := u1.toks) (fun b o nb e => (sb.2 b nb).trans e) z0 z1 z3 z4 z5, rfl, fin⟩⟩
    · refine thnF (T.item (X.blk s2 H2 scope ce fp) rfl rfl rfl C.calm i [] u _ Hi (fun _ _ => False) Ii (still Ii ni) ti go) fun r u1 ⟨v, hr, h1⟩ => ?_
      subst hr
      refine thnF h1 fun _ u2 ⟨y, Hy, J, ry, yl, ty, ny⟩ => ?_
      refine thnF (pg.run _ u2 _ Hy y v _ (J.pinned (still J ny) (T.obj _ _ ty)) ry (step y Hy yl)) fun _ u3 ⟨σ3, H3, J3, hw, q3⟩ => ?_
      refine thnF (pt.run _ u3 σ3 H3 _ J3 q3) fun b u4 ⟨H4, J4, q4⟩ => ?_
      have next : ∀ {u5 : Shared} {H5 : Hp}, Inv (X.blk s2 H2 scope ce fp) ([] ++ pinsAt fp u2.heap) σ3 H5 u5 → Nx H5 → ∃ m, m < n ∧ ∃ i H', Inv (X.blk s2 H2 scope ce fp) [] (wipe σ (own.map (·.2))) H' u5 ∧ tn i u5.heap ∧ (∀ b ∈ fp, H' b = none) ∧ W i m H' := fun {u5 H5} J5 nx => by
        obtain ⟨m', lt, w'⟩ := less H5 nx
        have held : ∀ b ∈ fp, ∀ o, u2.heap.get? b = some o → u5.heap.get? b = some o ∧ H5 b = none := fun b hb o e =>
          let p := J5.pin (b, o) (List.mem_append_right _ (List.mem_append_right _ (mem_pinsAt hb e)))
          ⟨p.1, p.2.1⟩
        refine ⟨m', lt, i + 1, H5, (J5.unpinned (pins := [])).weak (by rw [← hw, wipe_length]) (fun j d e => by rw [← hw] at e; exact (wipe_some e).1), T.keep _ _ _ ty fun b hb o e => (held b hb o e).1, fun b hb => ?_, w'⟩
        obtain ⟨o, e, _⟩ := T.obj _ _ ty b hb
        exact (held b hb o e).2
      cases b with
      | false => exact next J4 q4
      | true =>
        refine thnF (pe.run _ u4 σ3 H4 _ J4 q4) fun x u5 ⟨xv, H5, J5, rx, xa, k, ps, ex, hl5, room, kd, nx⟩ => ?_
        subst ex
        cases (show x = Value.ref xa from rx)
        exact add_ok (X := X.blk s2 H2 scope ce fp) J5 C.un hl5 room kd fun u6 J6 => next J6 nx
  exact PpSet.codeAny_compStart_set loop (T.self X.A 0 _ _ _ t3 loop)
end
end Pyr

set_option Elab.async false
set_option autoImplicit false
set_option linter.all false
set_option maxRecDepth 100000
set_option maxHeartbeats 4000000
/-! sorted({e for x in xs if c}) -/
namespace Pyr
open PySem PySem.Spec PyProof.Rows L2 Evl
def lSortC (own : List Nat) (t : Tg) (fi : En → Res (List D)) (tt : En → Res Bool) (fe : En → Res D) : En → Res (List D) := fun ρ => (lComp own t fi tt fe ρ).bind sortS
section
variable {TS : TabList} {X : Cx} {tg iter elt : Expr} {fi : En → Res (List D)} {tt : En → Res Bool} {fe : En → Res D} {ifs : List Expr} {pos : Pos} {t : Tg} {scope : Scope} {own : List (Str × Nat)}
theorem sortS_inv {total : List D} {zs : List D} (h : sortS total = .ok zs) : setC total = true ∧ zs = (uniqD total).mergeSort (PySem.W.dataLe false id) := by
  unfold sortS at h
  split at h
  · rename_i hc
    cases h
    exact ⟨hc, rfl⟩
  · cases h
theorem okL_inv {n : Nat} {r : Res (List D)} {zs : List D} (h : okL n r = .ok zs) : n ≤ 100000 ∧ r = .ok zs := by
  unfold okL at h
  split at h
  · rename_i hn
    exact ⟨hn, h⟩
  · cases h
theorem setC_parts {ds : List D} (h : setC ds = true) : keysB ds = true ∧ (∀ d ∈ ds, d.depth ≤ 8) ∧ ds.length ≤ 63 ∧ ∀ d ∈ ds, tupB d = true := by
  unfold setC at h
  simp only [Bool.and_eq_true, decide_eq_true_eq] at h
  exact ⟨h.1.1.1.1, fun d hd => of_decide_eq_true (List.all_eq_true.mp h.1.2 d hd), h.2, fun d hd => List.all_eq_true.mp h.1.1.2 d hd⟩
/-- the new set of the comprehension, and what may be done with it -/
theorem kc_core {W : WX} {ρ : En} {σ : L2.St} {G H : Hp} {Q : VK} {QQ : VK} (hi : DI TS X tg iter fi) (ho : ∀ i ∈ t.all, i ∈ own.map (·.2))
    (ht : ∀ (s : Shared) (H : Hp) (C : Addr) (cl : List (Str × Addr)) (fp : List Addr), DTs TS (X.blk s H scope (compEnvC scope cl C X.env) fp) ifs tt)
    (he : ∀ (s : Shared) (H : Hp) (C : Addr) (cl : List (Str × Addr)) (fp : List Addr), DE TS (X.blk s H scope (compEnvC scope cl C X.env) fp) elt fe)
    (tk : Takes X W) (re : RpE TS X.K G H ρ σ) (ok : Ok0 TS G H) (post : PostG (RelL X.K) TS X W σ G H (lSortC (own.map (·.2)) t fi tt fe ρ) Q)
    (fin : ∀ (l : Addr) (ps : List (Addr × NestedKey)) (ds : List D) (G2 H2 : Hp), Gr TS G H G2 H2 → H2 l = some (keyO X.prog X.w l ps) → Rps X.K G2 (ps.map fun e => V.ref e.1) ds → nks ds = ps.map (·.2) → setC ds = true → PostG (RelL X.K) TS X W σ G2 H2 (.ok ((uniqD ds).mergeSort (PySem.W.dataLe false id))) Q → QQ (.ref l) H2) :
    tKc X (wpIt X tg iter) (gTg X.K t) (blkT X scope ifs) (blkE X scope elt) (own.map (·.2)) σ H QQ := by
  have post : PostG (RelL X.K) TS X W σ G H ((fi ρ).bind fun ds => (okL ds.length (compF t tt fe (wipeE ρ (own.map (·.2))) ds)).bind sortS) Q := by
    have e : lSortC (own.map (·.2)) t fi tt fe ρ = (fi ρ).bind fun ds => (okL ds.length (compF t tt fe (wipeE ρ (own.map (·.2))) ds)).bind sortS := by
      unfold lSortC lComp
      cases fi ρ <;> rfl
    rw [e] at post
    exact post
  refine bindP (wp := fun R => wpIt X tg iter σ H R) back_L (fun Q' p => hi W ρ σ G H Q' tk re ok p) post fun J ds G1 H1 _ g1 wk p => ?_
  cases eo : okL ds.length (compF t tt fe (wipeE ρ (own.map (·.2))) ds) with
  | exc c fs =>
    unfold okL at eo
    split at eo
    · exact (compF_exc ds eo).elim
    · cases eo
  | bad =>
    rw [eo] at p
    exact p.elim
  | ok total =>
  rw [eo] at p
  obtain ⟨hlim, ht0⟩ := okL_inv eo
  have p : PostG (RelL X.K) TS X W σ G1 H1 (sortS total) Q := p
  cases es : sortS total with
  | exc c fs =>
    unfold sortS at es
    split at es <;> cases es
  | bad =>
    rw [es] at p
    exact p.elim
  | ok zs =>
  rw [es] at p
  obtain ⟨hsc, rfl⟩ := sortS_inv es
  obtain ⟨kb, dp, small, tups⟩ := setC_parts hsc
  intro l hD
  have reW : ∀ {G' H' : Hp}, Gr TS G1 H1 G' H' → RpE TS X.K G' H' (wipeE ρ (own.map (·.2))) (wipe σ (own.map (·.2))) := fun e => ((re.mono g1).mono e).wipe _
  generalize hρ : wipeE ρ (own.map (·.2)) = ρ0 at ht0 reW
  refine ⟨fun i m H => m = ds.length - i ∧ i ≤ ds.length ∧ ∃ Gi ps pre rest, Gr TS G1 H1 Gi H ∧ Gi l = none ∧ H l = some (keyO X.prog X.w l ps) ∧ Rps X.K Gi (ps.map fun e => V.ref e.1) pre ∧ nks pre = ps.map (·.2) ∧ compF t tt fe ρ0 (ds.drop i) = .ok rest ∧ pre ++ rest = total,
    ⟨ds.length, by simp, Nat.zero_le _, G1, [], [], total, Gr.own g1.ok hD, fresh_back g1.ok.le hD, upd_same, .nil, rfl, by rw [List.drop_zero]; exact ht0, rfl⟩, ?_⟩
  rintro i m H2 ⟨rfl, hi2, Gi, ps, pre, rest, gi, gD, hl, rv, hk, hr, ht2⟩
  obtain ⟨w1, w2⟩ := wk Gi H2 gi.g gi.ok
  by_cases hlt : i < ds.length
  · have hx : ds[i]? = some ds[i] := List.getElem?_eq_getElem hlt
    rw [List.drop_eq_getElem_cons hlt] at hr
    obtain ⟨h1, h2⟩ := w1 i _ hx
    refine .inr ⟨h1, fun H' => ∃ Gi ps pre rest, Gr TS G1 H1 Gi H' ∧ Gi l = none ∧ H' l = some (keyO X.prog X.w l ps) ∧ Rps X.K Gi (ps.map fun e => V.ref e.1) pre ∧ nks pre = ps.map (·.2) ∧ compF t tt fe ρ0 (ds.drop (i + 1)) = .ok rest ∧ pre ++ rest = total, fun H' h => ⟨ds.length - (i + 1), by omega, rfl, hlt, h⟩, fun v H' y => ?_⟩
    obtain ⟨G', g, r⟩ := h2 v H' y
    have hr : ((tgE t ds[i] ρ0).bind fun ρ1 => (noX (tt ρ1)).bind fun b => if b then (noX (fe ρ1)).bind fun y => (compF t tt fe ρ0 (ds.drop (i + 1))).bind fun ys => .ok (y :: ys) else compF t tt fe ρ0 (ds.drop (i + 1))) = .ok rest := hr
    cases e1 : tgE t ds[i] ρ0 with
    | exc c fs => exact (tgE_exc e1).elim
    | bad => rw [e1] at hr; cases hr
    | ok ρ1 =>
    rw [e1] at hr
    have hr : ((noX (tt ρ1)).bind fun b => if b then (noX (fe ρ1)).bind fun y => (compF t tt fe ρ0 (ds.drop (i + 1))).bind fun ys => .ok (y :: ys) else compF t tt fe ρ0 (ds.drop (i + 1))) = .ok rest := hr
    refine gTg_ok g.ok ho r (reW (gi.trans g)) e1 fun σ2 re2 hw => ?_
    rw [wipe_wipe] at hw
    refine ⟨hw, fun s' H0' C' cl' fp' => ?_⟩
    refine ht s' H0' C' cl' fp' (fun _ _ _ _ => False) ρ1 σ2 G' H' _ takes0 re2 g.ok ?_
    cases e2 : tt ρ1 with
    | exc c fs => rw [e2] at hr; cases hr
    | bad => rw [e2] at hr; cases hr
    | ok b =>
    rw [e2] at hr
    intro b' G3 H3 g3 eb
    subst eb
    have keep : ∀ {Ga Ha Gb Hb : Hp}, Gr TS Ga Ha Gb Hb → Ga l = none → Ha l = some (keyO X.prog X.w l ps) → Gb l = none ∧ Hb l = some (keyO X.prog X.w l ps) := fun {Ga Ha Gb Hb} gg z1 z2 => by
      refine ⟨?_, gg.h.same l _ z2 fun _ e => nomatch e⟩
      cases q : Gb l with
      | none => rfl
      | some w =>
        rcases gg.nw l (by rw [q]; simp) with c | c
        · exact absurd z1 c
        · rw [z2] at c
          cases c
    obtain ⟨k1, k2⟩ := keep g gD hl
    obtain ⟨k3, k4⟩ := keep g3 k1 k2
    cases b' with
    | false => exact iteF ⟨G3, ps, pre, rest, (gi.trans g).trans g3, k3, k4, (rv.mono g.g).mono g3.g, hk, hr, ht2⟩
    | true =>
    refine iteT fun s' H0' C' cl' fp' => ?_
    have hr : ((noX (fe ρ1)).bind fun y => (compF t tt fe ρ0 (ds.drop (i + 1))).bind fun ys => .ok (y :: ys)) = .ok rest := hr
    refine he s' H0' C' cl' fp' (fun _ _ _ _ => False) ρ1 σ2 G3 H3 _ takes0 (re2.mono g3) g3.ok ?_
    cases e3 : fe ρ1 with
    | exc c fs => rw [e3] at hr; cases hr
    | bad => rw [e3] at hr; cases hr
    | ok yd =>
    rw [e3] at hr
    have hr : ((compF t tt fe ρ0 (ds.drop (i + 1))).bind fun ys => Res.ok (yd :: ys)) = .ok rest := hr
    cases e4 : compF t tt fe ρ0 (ds.drop (i + 1)) with
    | exc c fs => rw [e4] at hr; cases hr
    | bad => rw [e4] at hr; cases hr
    | ok ys =>
    rw [e4] at hr
    cases hr
    intro yv G4 H4 g4 ry
    obtain ⟨k5, k6⟩ := keep g4 k3 k4
    have tot : pre ++ [yd] ++ ys = total := by rw [List.append_assoc]; exact ht2
    have kb2 : keysB (pre ++ [yd]) = true := keysB_of fun d hd => keysB_mem kb d (by rw [← tot]; exact List.mem_append_left _ hd)
    have dp2 : ∀ d ∈ pre ++ [yd], d.depth ≤ 8 := fun d hd => dp d (by rw [← tot]; exact List.mem_append_left _ hd)
    have ky : keyB yd = true := keysB_mem kb2 yd (List.mem_append_right _ List.mem_cons_self)
    obtain ⟨xa, rfl⟩ : ∃ xa, yv = V.ref xa := by
      have tup := tups yd (by rw [← tot]; exact List.mem_append_left _ (List.mem_append_right _ List.mem_cons_self))
      cases ry <;> first | exact ⟨_, rfl⟩ | cases tup
    have rv2 : Rps X.K G4 ((ps ++ [(xa, nk yd)]).map fun e => V.ref e.1) (pre ++ [yd]) := by
      rw [List.map_append]
      exact (((rv.mono g.g).mono g3.g).mono g4.g).app (.cons ry .nil)
    have hk2 : nks (pre ++ [yd]) = (ps ++ [(xa, nk yd)]).map (·.2) := by
      rw [nks_map, List.map_append, ← nks_map, hk, List.map_append]
      rfl
    have pl : ps.length = pre.length := by
      have := congrArg List.length hk
      rw [nks_map, List.length_map, List.length_map] at this
      exact this.symm
    refine ⟨xa, nk yd, ps, rfl, k6, ?_, ⟨_, rv2.mono g4.ok.le, hk2, kb2, dp2⟩, G4, ps ++ [(xa, nk yd)], pre ++ [yd], ys, ?_, k5, upd_same, rv2, hk2, rfl, tot⟩
    · rw [pl]
      have : total.length = pre.length + 1 + ys.length := by
        rw [← tot, List.length_append, List.length_append]
        rfl
      omega
    · have gg := ((gi.trans g).trans g3).trans g4
      refine ⟨gg.g, ⟨fun b w hb n => ?_, fun b hb => gg.h.old b (upd_none hb)⟩, gg.nw, ⟨fun b w hb => ?_, fun P hP => ?_, gg.ok.nt⟩⟩
      · rw [upd_ne (ne_of_none hb hD)]
        exact gg.h.same b w hb n
      · rw [upd_ne (ne_of_none hb k5)]
        exact gg.ok.le b w hb
      · obtain ⟨ps', q1, q2⟩ := gg.ok.tb P hP
        refine ⟨ps', ?_, q2⟩
        rw [upd_ne fun e => ?_]
        · exact q1
        · rw [e, k6] at q1
          cases q1
  · have e : i = ds.length := by omega
    subst e
    rw [List.drop_length] at hr
    cases hr
    rw [List.append_nil] at ht2
    subst ht2
    refine .inl ⟨w2, fin l ps pre Gi H2 (g1.trans gi) hl rv hk hsc ?_⟩
    intro v G5 H5 g5 r5
    exact p v G5 H5 (gi.trans g5) (back_L H1 H2 G5 H5 v _ (fun a h => gi.h.old a h) r5)
theorem dl_sortedK (C : CtE X) {p' pos' : Pos} (hg' : Gl X "sorted") (hm : X.mg "sorted" = none) (hv : bootBuiltins "sorted" = some (.builtin "sorted")) (hi : DI TS X tg iter fi) (ok : BlkOk X.N X.env.scope scope own) (ho : ∀ i ∈ t.all, i ∈ own.map (·.2))
    (hg : ∀ (s : Shared) (H : Hp) (C : Addr) (cl : List (Str × Addr)) (fp : List Addr), PG (X.blk s H scope (compEnvC scope cl C X.env) fp) tg (gTg X.K t))
    (ht : ∀ (s : Shared) (H : Hp) (C : Addr) (cl : List (Str × Addr)) (fp : List Addr), DTs TS (X.blk s H scope (compEnvC scope cl C X.env) fp) ifs tt)
    (he : ∀ (s : Shared) (H : Hp) (C : Addr) (cl : List (Str × Addr)) (fp : List Addr), DE TS (X.blk s H scope (compEnvC scope cl C X.env) fp) elt fe) (hs : ∀ x, foldedSetIterable iter X.env x = pure x := by intro _; rfl)
    (hst : starEach [.SetComp elt [⟨tg, iter, ifs, 0⟩] scope pos] X.env = (false, eval (.SetComp elt [⟨tg, iter, ifs, 0⟩] scope pos) X.env) :: starEach [] X.env := by rfl) (hpl : (backTo pos' (starEach [] X.env)).any (·.1) = false := by rfl) :
    DL TS X (.Call (.Name "sorted" p') [.SetComp elt [⟨tg, iter, ifs, 0⟩] scope pos] [] pos') (lSortC (own.map (·.2)) t fi tt fe) := by
  refine ⟨?_⟩
  intro W ρ σ G H Q tk re k post
  refine wpE_of (pe_callB (cr_wp _) hg' hm hv (pa_cons (pe_kc (wi := wpIt X tg iter) (g := gTg X.K t) (tt := blkT X scope ifs) (te := blkE X scope elt) C (pi_wp X tg iter) ok hg (fun s H C cl fp => ⟨fun pins s1 σ H1 Q I h => h s H C cl fp pins s1 I⟩) (fun s H C cl fp => ⟨fun pins s1 σ H1 Q I h => h s H C cl fp pins s1 I⟩) hs) pa_nil hst) (by decide) (by decide) hst hpl) ?_
  show tKc X (wpIt X tg iter) (gTg X.K t) (blkT X scope ifs) (blkE X scope elt) (own.map (·.2)) σ H (fun v H1 => wpC X (.builtin "sorted") [v] H1 Q)
  refine kc_core hi ho ht he tk re k post fun l ps ds G2 H2 g2 hl rv hk hsc p => ?_
  refine cr_sortedK C g2.ok.le hl rv hk hsc fun q vs hq rs => ?_
  have gg : Gr TS G2 H2 G2 (upd H2 q (.lst vs)) := Gr.own g2.ok hq
  exact p (.ref q) G2 _ gg ⟨q, vs, rfl, hq, fresh_back g2.ok.le hq, upd_same, rs⟩
end
end Pyr

set_option Elab.async false
set_option autoImplicit false
set_option linter.all false
set_option maxRecDepth 100000
set_option maxHeartbeats 4000000
namespace Com2
noncomputable section
open PySem PySem.Spec PyProof.Rows L2 Evl Pyr
def B__law_schema_0 : Frm → Res Fl := (sSeq (sSet 4 (e2 addD (eC (.int 1)) (e2 modD (eN (oneD int2D) (aC (e2 atD (eVar 0) (e2 addD (eC (.int 1)) (e2 mul2D (eC (.int 2)) (eVar 3)))) a0)) (eC (.int 4)))))
  (sSeq (sSet 5 (eC .none))
  (sSeq (sIf (tE boolD (e2 gtD (e2 modD (eN (oneD int2D) (aC (e2 atD (eVar 0) (e2 addD (eC (.int 2)) (e2 mul2D (eC (.int 2)) (eVar 3)))) a0)) (eC (.int 3))) (eC (.int 0)))) (sSet 5 (e2 addD (eC (.int 1)) (e2 modD (eN (oneD int2D) (aC (e2 fdivD (e2 atD (eVar 0) (e2 addD (eC (.int 2)) (e2 mul2D (eC (.int 2)) (eVar 3)))) (eC (.int 3))) a0)) (eVar 4)))) sNext)
  (sSeq (sApp 2 (eN tupD (aC (e2 atD (eVar 1) (eVar 3)) (aC (eVar 4) (aC (eVar 5) a0)))))
  (sKill [3, 4, 5] sNext)))))
def F__law_schema : Frm → Res Fl := (sSeq (sSetL 2 (lN a0))
  (sKill [3, 4, 5] (sSeq (sForR (Tg.nm 3) (iF r1D (e2 atD (eL (lN (aC (eC (.int 1)) (aC (eC (.int 2)) (aC (eC (.int 1)) (aC (eC (.int 2)) (aC (eC (.int 2)) (aC (eC (.int 3)) (aC (eC (.int 1)) (aC (eC (.int 4)) a0)))))))))) (e2 modD (eN (oneD int2D) (aC (e2 atD (eVar 0) (eC (.int 0))) a0)) (eC (.int 8))))) B__law_schema_0)
  (sKill [3, 4, 5] (sRetO 2)))))
noncomputable def m__law_schema : List D → Res RV := hid (defM 2 6 F__law_schema)
theorem u__law_schema : m__law_schema = defM 2 6 F__law_schema := hid_eq _
def F_ascending : Frm → Res Fl := (sSeq (sSet 2 (eL (lSortC [5, 4] (Tg.tp [5, 4]) (iF walkD (eVar 1)) tYesR (eN tupD (aC (eCall m_place_of (aC (eVar 0) (aC (eVar 5) a0))) (aC (eVar 4) a0))))))
  (sRetL (lComp [3, 4] (Tg.tp [3, 4]) (iF walkD (eVar 2)) tYesR (eN tupD (aC (e2 atD (e2 atD (eVar 0) (eVar 3)) (eC (.int 0))) (aC (eVar 4) a0))))))
noncomputable def m_ascending : List D → Res RV := hid (defM 2 6 F_ascending)
theorem u_ascending : m_ascending = defM 2 6 F_ascending := hid_eq _
def F_without : Frm → Res Fl := (sSeq (sSetS 2 (eVar 1))
  (sRetL (lComp [3] (Tg.nm 3) (iF walkD (eVar 0)) (eInS true 2 (eVar 3)) (eVar 3))))
noncomputable def m_without : List D → Res RV := hid (defM 2 4 F_without)
theorem u_without : m_without = defM 2 4 F_without := hid_eq _
def B__law_is_facts_0 : Frm → Res Fl := (sSeq (sIf (tOrR (tNotR (tE truD (e1 (isiD "tuple") (eVar 1)))) (tOrR (tE boolD (e2 neD (eN (oneD lenD) (aC (eVar 1) a0)) (eC (.int 2)))) (tNotR (tE truD (e1 (isiD "str") (e2 atD (eVar 1) (eC (.int 0)))))))) (sRet (eC (.bool false))) sNext)
  (sSeq (sIf (tOrR (tNotR (tE truD (e1 (isiD "tuple") (e2 atD (eVar 1) (eC (.int 1)))))) (tNotR (tE truD (eN (oneD allD) (aC (eL (lComp [2] (Tg.nm 2) (iF walkD (e2 atD (eVar 1) (eC (.int 1)))) tYesR (e1 (isiD "str") (eVar 2)))) a0))))) (sRet (eC (.bool false))) sNext)
  (sKill [1] sNext)))
def F__law_is_facts : Frm → Res Fl := (sSeq (sIf (tNotR (tE truD (e1 (isiD "list") (eVar 0)))) (sRet (eC (.bool false))) sNext)
  (sKill [1, 2] (sSeq (sFor (Tg.nm 1) (iF walkD (eVar 0)) B__law_is_facts_0)
  (sKill [1] (sRet (eC (.bool true)))))))
noncomputable def m__law_is_facts : List D → Res RV := hid (defM 1 3 F__law_is_facts)
theorem u__law_is_facts : m__law_is_facts = defM 1 3 F__law_is_facts := hid_eq _
def F__law_is_change : Frm → Res Fl := (sSeq (sIf (tOrR (tNotR (tE truD (e1 (isiD "tuple") (eVar 0)))) (tE boolD (e2 neD (eN (oneD lenD) (aC (eVar 0) a0)) (eC (.int 2))))) (sRet (eC (.bool false))) sNext)
  (sRet (eAnd (eCall m__law_is_facts (aC (e2 atD (eVar 0) (eC (.int 0))) a0)) (eCall m__law_is_facts (aC (e2 atD (eVar 0) (eC (.int 1))) a0)))))
noncomputable def m__law_is_change : List D → Res RV := hid (defM 1 1 F__law_is_change)
theorem u__law_is_change : m__law_is_change = defM 1 1 F__law_is_change := hid_eq _
def F__law_between : Frm → Res Fl := (sRet (eN tupD (aC (eL (lComp [2] (Tg.nm 2) (iF walkD (eVar 0)) (tE boolD (e2 notInD (eVar 2) (eVar 1))) (eVar 2))) (aC (eL (lComp [2] (Tg.nm 2) (iF walkD (eVar 1)) (tE boolD (e2 notInD (eVar 2) (eVar 0))) (eVar 2))) a0))))
noncomputable def m__law_between : List D → Res RV := hid (defM 2 3 F__law_between)
theorem u__law_between : m__law_between = defM 2 3 F__law_between := hid_eq _
def F__law_fact : Frm → Res Fl := (sSeq (sSet 3 (e2 atD (eVar 0) (e2 modD (eN (oneD int2D) (aC (e2 atD (eVar 2) (eC (.int 0))) a0)) (eN (oneD lenD) (aC (eVar 0) a0)))))
  (sRet (eN tupD (aC (e2 atD (eVar 3) (eC (.int 0))) (aC (eN (oneD fun d => (itemsD d).map .tuple) (aC (eL (lComp [4] (Tg.nm 4) (iF r1D (e2 atD (eVar 3) (eC (.int 1)))) tYesR (e2 atD (eVar 1) (e2 modD (eN (oneD int2D) (aC (e2 atD (eVar 2) (e2 addD (eC (.int 1)) (eVar 4))) a0)) (eN (oneD lenD) (aC (eVar 1) a0)))))) a0)) a0)))))
noncomputable def m__law_fact : List D → Res RV := hid (defM 3 5 F__law_fact)
theorem u__law_fact : m__law_fact = defM 3 5 F__law_fact := hid_eq _
def F__law_facts : Frm → Res Fl := (sRetL (lComp [4] (Tg.nm 4) (iF r1D (eVar 3)) tYesR (eCall m__law_fact (aC (eVar 0) (aC (eVar 1) (aC (eSlice (eVar 2) (oSome (e2 mul2D (eC (.int 5)) (eVar 4))) (oSome (e2 addD (e2 mul2D (eC (.int 5)) (eVar 4)) (eC (.int 5))))) a0))))))
noncomputable def m__law_facts : List D → Res RV := hid (defM 4 5 F__law_facts)
theorem u__law_facts : m__law_facts = defM 4 5 F__law_facts := hid_eq _
theorem cut_at {α : Type} (xs : List α) (a b : Nat) : cutG xs (some (a : Int)) (some (b : Int)) = (xs.drop (min a xs.length)).take (min b xs.length - min a xs.length) := by
  unfold cutG
  rw [HT.sIx_nat, HT.sIx_nat]
theorem cut_map (vs : List Int) (a b : Nat) (h : a ≤ b) (hb : b ≤ vs.length) : cutG (vs.map PyData.int) (some (a : Int)) (some (b : Int)) = ((vs.drop a).take (b - a)).map .int := by
  rw [cut_at, List.length_map, Nat.min_eq_left hb, Nat.min_eq_left (show a ≤ vs.length by omega), ← List.map_drop, ← List.map_take]
theorem dr_cut {vs : List Int} (h : Dr vs) (a b : Nat) : Dr ((vs.drop a).take b) := fun v hv => h v (List.mem_of_mem_drop (List.mem_of_mem_take hv))
theorem int_at {vs : List Int} {k : Nat} (hk : k < vs.length) : atD (.list (vs.map .int)) (.int (k : Int)) = .ok (.int vs[k]) := at_list (by simp [hk])
theorem str_at {ws : List Str} {k : Nat} (hk : k < ws.length) : atD (.list (ws.map .str)) (.int (k : Int)) = .ok (.str ws[k]) := at_list (by simp [hk])
/-- a table as drawn -/
def TbOk2 (ws : List Str) (t : Tb) : Prop := t.1 ∈ ws ∧ 1 ≤ t.2.1 ∧ t.2.1 ≤ 4 ∧ ∀ k, t.2.2 = some k → 1 ≤ k ∧ k ≤ 4
theorem schema_run (vs : List Int) (ws : List Str) (hv : vs.length = 9) (hw : 4 ≤ ws.length) : ∃ S : List Tb, m__law_schema [.list (vs.map .int), .list (ws.map .str)] = .ok (.own (S.map tbD)) ∧ 1 ≤ S.length ∧ S.length ≤ 4 ∧ ∀ t ∈ S, TbOk2 ws t := by
  have h0 : atD (.list (vs.map .int)) (.int 0) = .ok (.int vs[0]) := int_at (k := 0) (by omega)
  obtain ⟨n, en, hn⟩ := fmod_nat vs[0] (m := 8) (by decide)
  have en : vs[0].fmod 8 = (n : Int) := en
  obtain ⟨c, hc, c1, c4⟩ : ∃ c : Nat, atD (.list [.int 1, .int 2, .int 1, .int 2, .int 2, .int 3, .int 1, .int 4]) (.int (n : Int)) = .ok (.int (c : Int)) ∧ 1 ≤ c ∧ c ≤ 4 := by
    have : n = 0 ∨ n = 1 ∨ n = 2 ∨ n = 3 ∨ n = 4 ∨ n = 5 ∨ n = 6 ∨ n = 7 := by omega
    rcases this with e | e | e | e | e | e | e | e <;> subst e
    · exact ⟨1, rfl, by decide, by decide⟩
    · exact ⟨2, rfl, by decide, by decide⟩
    · exact ⟨1, rfl, by decide, by decide⟩
    · exact ⟨2, rfl, by decide, by decide⟩
    · exact ⟨2, rfl, by decide, by decide⟩
    · exact ⟨3, rfl, by decide, by decide⟩
    · exact ⟨1, rfl, by decide, by decide⟩
    · exact ⟨4, rfl, by decide, by decide⟩
  obtain ⟨S, e, i1, i2⟩ := forF_exN (S := List Tb) (t := Tg.nm 3) (F := B__law_schema_0) (fun S => [.val (.list (vs.map .int)), .val (.list (ws.map .str)), .own (.lst (S.map tbD)), .emp, .emp, .emp])
    (fun k S => S.length = k ∧ ∀ t ∈ S, TbOk2 ws t) c 0 [] ⟨rfl, fun t h => nomatch h⟩ fun k S _ hk ⟨i1, i2⟩ => by
      have lS : (S.map tbD).length = S.length := List.length_map _
      have a1 : atD (.list (vs.map .int)) (.int (1 + 2 * (k : Int))) = .ok (.int vs[1 + 2 * k]) := int_at (k := 1 + 2 * k) (by omega)
      have a2 : atD (.list (vs.map .int)) (.int (2 + 2 * (k : Int))) = .ok (.int vs[2 + 2 * k]) := int_at (k := 2 + 2 * k) (by omega)
      have a3 := str_at (ws := ws) (k := k) (by omega)
      obtain ⟨w, ew, hw'⟩ := fmod_nat vs[1 + 2 * k] (m := 4) (by decide)
      have ew : vs[1 + 2 * k].fmod 4 = (w : Int) := ew
      by_cases q : (0 : Int) < vs[2 + 2 * k].fmod 3
      · obtain ⟨c, ec, hc⟩ := fmod_nat (vs[2 + 2 * k].fdiv 3) (m := 1 + w) (by omega)
        have ec : (vs[2 + 2 * k].fdiv 3).fmod (1 + (w : Int)) = (c : Int) := by rw [show (1 + (w : Int)) = ((1 + w : Nat) : Int) by omega]; exact ec
        refine ⟨S ++ [(ws[k], 1 + w, some (1 + c))], _, rfl, .inl ?_, by rw [List.length_append, i1]; rfl, fun t ht => ?_⟩
        · unfold B__law_schema_0
          simp -implicitDefEqProofs (disch := omega) only [Pyr.run_flI, Pyr.run_flB, Pyr.run_flS, Pyr.run_flN, Pyr.sSeq, Pyr.sKill, Pyr.run_kill0, Pyr.run_killS, Pyr.sIf, Pyr.sSet, Pyr.sSetL, Pyr.sRet, Pyr.sRetL, Pyr.sRetN, Pyr.sRetO, Pyr.sDrop, Pyr.sApp, Pyr.sNext, Pyr.sFrz, Pyr.sSetT, Pyr.tgF, Pyr.setsF, Pyr.evP, Pyr.evL, Pyr.evT, Pyr.bare, Pyr.eC, Pyr.e1, Pyr.e2, Pyr.eN, Pyr.aC, Pyr.a0, Pyr.eIf, Pyr.eAnd, Pyr.eOr, Pyr.eNot, Pyr.eChain, Pyr.tE, Pyr.tNotR, Pyr.tAndR, Pyr.tOrR, Pyr.eCall, Pyr.lCall, Pyr.iF, Pyr.iF2, Pyr.lN, Pyr.lF, Pyr.eFs, Pyr.jC, Pyr.j0, Pyr.eIxV, Pyr.ownI, Pyr.lAdd, Pyr.sExt, Pyr.sPop, Pyr.trF, Pyr.trsF, Trs.len, Pyr.run_max2, Pyr.run_min2, Pyr.backD, Pyr.eSlice, Pyr.oNone, Pyr.oSome, Pyr.optI, Pyr.lSlice, Pyr.listD, eL, Pyr.eB, Pyr.oneD, Pyr.oneL, Pyr.itemsD, Pyr.outR, Pyr.ownD, Pyr.RV.d, Pyr.tupD, Pyr.run_mul, Pyr.run_mulS, Pyr.run_add, Pyr.run_sub, Pyr.run_addS, Pyr.run_mod, Pyr.run_fdiv, Pyr.run_lt, Pyr.run_le, Pyr.run_gt, Pyr.run_ge, Pyr.run_lenL, Pyr.run_lenT, Pyr.run_lenS, Pyr.run_int, Pyr.run_bool, Pyr.run_truB, Pyr.run_truL, Pyr.run_pur1, Pyr.run_frz1, Pyr.run_pSv, Pyr.run_pSo, Pyr.run_pSe, Pyr.run_fSv, Pyr.run_fSo, Pyr.run_fSe, Pyr.run_pur0, Pyr.run_frz0, Pyr.run_v0n, Pyr.run_v0b, Pyr.run_v0i, Pyr.run_v0s, Pyr.run_v0l, Pyr.run_v0t, Pyr.run_v0o, Pyr.run_vN, Pyr.run_vS, Pyr.run_bad, Pyr.run_exc, Pyr.run_map, Pyr.run_okL, List.length_cons, List.length_nil, Pyr.bind_ok, List.set_cons_zero, List.set_cons_succ, List.getElem?_cons_zero, List.getElem?_cons_succ, Pyr.eqD_int, Pyr.eqD_str, Pyr.neD_int, Pyr.neD_str, if_true, if_false, Bool.not_true, Bool.not_false, Bool.false_eq_true, decide_true, decide_false, Pyr.run_atT0, Pyr.run_atT1, Pyr.run_atT2, Pyr.run_atT3, Pyr.run_atT4, Pyr.run_atL0, Pyr.run_atL1, Pyr.run_atL2, Pyr.run_atL3, Pyr.run_atL4, Pyr.isi_str_n, Pyr.isi_str_b, Pyr.isi_str_i, Pyr.isi_str_s, Pyr.isi_str_l, Pyr.isi_str_t, Pyr.isi_str_d, Pyr.isi_int_n, Pyr.isi_int_b, Pyr.isi_int_i, Pyr.isi_int_s, Pyr.isi_int_l, Pyr.isi_int_t, Pyr.isi_int_d, Pyr.isi_bool_n, Pyr.isi_bool_b, Pyr.isi_bool_i, Pyr.isi_bool_s, Pyr.isi_bool_l, Pyr.isi_bool_t, Pyr.isi_bool_d, Pyr.isi_list_n, Pyr.isi_list_b, Pyr.isi_list_i, Pyr.isi_list_s, Pyr.isi_list_l, Pyr.isi_list_t, Pyr.isi_list_d, Pyr.isi_tuple_n, Pyr.isi_tuple_b, Pyr.isi_tuple_i, Pyr.isi_tuple_s, Pyr.isi_tuple_l, Pyr.isi_tuple_t, Pyr.isi_tuple_d, Pyr.isi_dict_n, Pyr.isi_dict_b, Pyr.isi_dict_i, Pyr.isi_dict_s, Pyr.isi_dict_l, Pyr.isi_dict_t, Pyr.isi_dict_d, Nat.reduceAdd, Int.cast_ofNat_Int, Int.natCast_zero, Int.natCast_one, Int.reduceEq, Int.reduceLT, Int.reduceLE, Int.reduceAdd, Int.reduceSub, Int.reduceMul, Int.reduceNeg, Int.reduceNe, Nat.zero_add, reduceIte, decide_eq_true_eq, beq_self_eq_true, eq_self, Bool.true_or, Bool.or_true, Bool.and_true, Bool.true_and, Bool.false_or, Bool.or_false, Bool.and_false, Bool.false_and, a1, a2, a3, ew, q, ec, lS, List.map_append, List.map_cons, List.map_nil]
          simp only [tbD, kyD, Int.natCast_add, Int.natCast_one, Int.cast_ofNat_Int]
        · rcases List.mem_append.mp ht with ht | ht
          · exact i2 t ht
          · rw [List.mem_singleton.mp ht]
            exact ⟨List.getElem_mem _, by show 1 ≤ 1 + w; omega, by show 1 + w ≤ 4; omega, fun k hk => by cases hk; omega⟩
      · refine ⟨S ++ [(ws[k], 1 + w, none)], _, rfl, .inl ?_, by rw [List.length_append, i1]; rfl, fun t ht => ?_⟩
        · unfold B__law_schema_0
          simp -implicitDefEqProofs (disch := omega) only [Pyr.run_flI, Pyr.run_flB, Pyr.run_flS, Pyr.run_flN, Pyr.sSeq, Pyr.sKill, Pyr.run_kill0, Pyr.run_killS, Pyr.sIf, Pyr.sSet, Pyr.sSetL, Pyr.sRet, Pyr.sRetL, Pyr.sRetN, Pyr.sRetO, Pyr.sDrop, Pyr.sApp, Pyr.sNext, Pyr.sFrz, Pyr.sSetT, Pyr.tgF, Pyr.setsF, Pyr.evP, Pyr.evL, Pyr.evT, Pyr.bare, Pyr.eC, Pyr.e1, Pyr.e2, Pyr.eN, Pyr.aC, Pyr.a0, Pyr.eIf, Pyr.eAnd, Pyr.eOr, Pyr.eNot, Pyr.eChain, Pyr.tE, Pyr.tNotR, Pyr.tAndR, Pyr.tOrR, Pyr.eCall, Pyr.lCall, Pyr.iF, Pyr.iF2, Pyr.lN, Pyr.lF, Pyr.eFs, Pyr.jC, Pyr.j0, Pyr.eIxV, Pyr.ownI, Pyr.lAdd, Pyr.sExt, Pyr.sPop, Pyr.trF, Pyr.trsF, Trs.len, Pyr.run_max2, Pyr.run_min2, Pyr.backD, Pyr.eSlice, Pyr.oNone, Pyr.oSome, Pyr.optI, Pyr.lSlice, Pyr.listD, eL, Pyr.eB, Pyr.oneD, Pyr.oneL, Pyr.itemsD, Pyr.outR, Pyr.ownD, Pyr.RV.d, Pyr.tupD, Pyr.run_mul, Pyr.run_mulS, Pyr.run_add, Pyr.run_sub, Pyr.run_addS, Pyr.run_mod, Pyr.run_fdiv, Pyr.run_lt, Pyr.run_le, Pyr.run_gt, Pyr.run_ge, Pyr.run_lenL, Pyr.run_lenT, Pyr.run_lenS, Pyr.run_int, Pyr.run_bool, Pyr.run_truB, Pyr.run_truL, Pyr.run_pur1, Pyr.run_frz1, Pyr.run_pSv, Pyr.run_pSo, Pyr.run_pSe, Pyr.run_fSv, Pyr.run_fSo, Pyr.run_fSe, Pyr.run_pur0, Pyr.run_frz0, Pyr.run_v0n, Pyr.run_v0b, Pyr.run_v0i, Pyr.run_v0s, Pyr.run_v0l, Pyr.run_v0t, Pyr.run_v0o, Pyr.run_vN, Pyr.run_vS, Pyr.run_bad, Pyr.run_exc, Pyr.run_map, Pyr.run_okL, List.length_cons, List.length_nil, Pyr.bind_ok, List.set_cons_zero, List.set_cons_succ, List.getElem?_cons_zero, List.getElem?_cons_succ, Pyr.eqD_int, Pyr.eqD_str, Pyr.neD_int, Pyr.neD_str, if_true, if_false, Bool.not_true, Bool.not_false, Bool.false_eq_true, decide_true, decide_false, Pyr.run_atT0, Pyr.run_atT1, Pyr.run_atT2, Pyr.run_atT3, Pyr.run_atT4, Pyr.run_atL0, Pyr.run_atL1, Pyr.run_atL2, Pyr.run_atL3, Pyr.run_atL4, Pyr.isi_str_n, Pyr.isi_str_b, Pyr.isi_str_i, Pyr.isi_str_s, Pyr.isi_str_l, Pyr.isi_str_t, Pyr.isi_str_d, Pyr.isi_int_n, Pyr.isi_int_b, Pyr.isi_int_i, Pyr.isi_int_s, Pyr.isi_int_l, Pyr.isi_int_t, Pyr.isi_int_d, Pyr.isi_bool_n, Pyr.isi_bool_b, Pyr.isi_bool_i, Pyr.isi_bool_s, Pyr.isi_bool_l, Pyr.isi_bool_t, Pyr.isi_bool_d, Pyr.isi_list_n, Pyr.isi_list_b, Pyr.isi_list_i, Pyr.isi_list_s, Pyr.isi_list_l, Pyr.isi_list_t, Pyr.isi_list_d, Pyr.isi_tuple_n, Pyr.isi_tuple_b, Pyr.isi_tuple_i, Pyr.isi_tuple_s, Pyr.isi_tuple_l, Pyr.isi_tuple_t, Pyr.isi_tuple_d, Pyr.isi_dict_n, Pyr.isi_dict_b, Pyr.isi_dict_i, Pyr.isi_dict_s, Pyr.isi_dict_l, Pyr.isi_dict_t, Pyr.isi_dict_d, Nat.reduceAdd, Int.cast_ofNat_Int, Int.natCast_zero, Int.natCast_one, Int.reduceEq, Int.reduceLT, Int.reduceLE, Int.reduceAdd, Int.reduceSub, Int.reduceMul, Int.reduceNeg, Int.reduceNe, Nat.zero_add, reduceIte, decide_eq_true_eq, beq_self_eq_true, eq_self, Bool.true_or, Bool.or_true, Bool.and_true, Bool.true_and, Bool.false_or, Bool.or_false, Bool.and_false, Bool.false_and, a1, a2, a3, ew, q, lS, List.map_append, List.map_cons, List.map_nil]
          simp only [tbD, kyD, Int.natCast_add, Int.natCast_one, Int.cast_ofNat_Int]
        · rcases List.mem_append.mp ht with ht | ht
          · exact i2 t ht
          · rw [List.mem_singleton.mp ht]
            exact ⟨List.getElem_mem _, by show 1 ≤ 1 + w; omega, by show 1 + w ≤ 4; omega, fun k hk => nomatch hk⟩
  rw [Nat.zero_add] at i1
  refine ⟨S, ?_, by omega, by omega, i2⟩
  have e : forF (Tg.nm 3) B__law_schema_0 (upto 0 c) [.val (.list (vs.map .int)), .val (.list (ws.map .str)), .own (.lst []), .emp, .emp, .emp] = .ok (.next [.val (.list (vs.map .int)), .val (.list (ws.map .str)), .own (.lst (S.map tbD)), .emp, .emp, .emp]) := e
  rw [u__law_schema]
  rw [defM_eq (np := 2) rfl]
  show outR (F__law_schema [.val (.list (vs.map .int)), .val (.list (ws.map .str)), .emp, .emp, .emp, .emp]) = _
  unfold F__law_schema
  rw [seq_ok (setL_ok (d := []) rfl)]
  show outR (sSeq _ _ [.val (.list (vs.map .int)), .val (.list (ws.map .str)), .own (.lst []), .emp, .emp, .emp]) = _
  rw [seq_ok (forN c (by omega) ?_ e)]
  · rfl
  · refine iF_ok (x := .int (c : Int)) ?_
    simp -implicitDefEqProofs (disch := omega) only [Pyr.run_flI, Pyr.run_flB, Pyr.run_flS, Pyr.run_flN, Pyr.sSeq, Pyr.sKill, Pyr.run_kill0, Pyr.run_killS, Pyr.sIf, Pyr.sSet, Pyr.sSetL, Pyr.sRet, Pyr.sRetL, Pyr.sRetN, Pyr.sRetO, Pyr.sDrop, Pyr.sApp, Pyr.sNext, Pyr.sFrz, Pyr.sSetT, Pyr.tgF, Pyr.setsF, Pyr.evP, Pyr.evL, Pyr.evT, Pyr.bare, Pyr.eC, Pyr.e1, Pyr.e2, Pyr.eN, Pyr.aC, Pyr.a0, Pyr.eIf, Pyr.eAnd, Pyr.eOr, Pyr.eNot, Pyr.eChain, Pyr.tE, Pyr.tNotR, Pyr.tAndR, Pyr.tOrR, Pyr.eCall, Pyr.lCall, Pyr.iF, Pyr.iF2, Pyr.lN, Pyr.lF, Pyr.eFs, Pyr.jC, Pyr.j0, Pyr.eIxV, Pyr.ownI, Pyr.lAdd, Pyr.sExt, Pyr.sPop, Pyr.trF, Pyr.trsF, Trs.len, Pyr.run_max2, Pyr.run_min2, Pyr.backD, Pyr.eSlice, Pyr.oNone, Pyr.oSome, Pyr.optI, Pyr.lSlice, Pyr.listD, eL, Pyr.eB, Pyr.oneD, Pyr.oneL, Pyr.itemsD, Pyr.outR, Pyr.ownD, Pyr.RV.d, Pyr.tupD, Pyr.run_mul, Pyr.run_mulS, Pyr.run_add, Pyr.run_sub, Pyr.run_addS, Pyr.run_mod, Pyr.run_fdiv, Pyr.run_lt, Pyr.run_le, Pyr.run_gt, Pyr.run_ge, Pyr.run_lenL, Pyr.run_lenT, Pyr.run_lenS, Pyr.run_int, Pyr.run_bool, Pyr.run_truB, Pyr.run_truL, Pyr.run_pur1, Pyr.run_frz1, Pyr.run_pSv, Pyr.run_pSo, Pyr.run_pSe, Pyr.run_fSv, Pyr.run_fSo, Pyr.run_fSe, Pyr.run_pur0, Pyr.run_frz0, Pyr.run_v0n, Pyr.run_v0b, Pyr.run_v0i, Pyr.run_v0s, Pyr.run_v0l, Pyr.run_v0t, Pyr.run_v0o, Pyr.run_vN, Pyr.run_vS, Pyr.run_bad, Pyr.run_exc, Pyr.run_map, Pyr.run_okL, List.length_cons, List.length_nil, Pyr.bind_ok, List.set_cons_zero, List.set_cons_succ, List.getElem?_cons_zero, List.getElem?_cons_succ, Pyr.eqD_int, Pyr.eqD_str, Pyr.neD_int, Pyr.neD_str, if_true, if_false, Bool.not_true, Bool.not_false, Bool.false_eq_true, decide_true, decide_false, Pyr.run_atT0, Pyr.run_atT1, Pyr.run_atT2, Pyr.run_atT3, Pyr.run_atT4, Pyr.run_atL0, Pyr.run_atL1, Pyr.run_atL2, Pyr.run_atL3, Pyr.run_atL4, Pyr.isi_str_n, Pyr.isi_str_b, Pyr.isi_str_i, Pyr.isi_str_s, Pyr.isi_str_l, Pyr.isi_str_t, Pyr.isi_str_d, Pyr.isi_int_n, Pyr.isi_int_b, Pyr.isi_int_i, Pyr.isi_int_s, Pyr.isi_int_l, Pyr.isi_int_t, Pyr.isi_int_d, Pyr.isi_bool_n, Pyr.isi_bool_b, Pyr.isi_bool_i, Pyr.isi_bool_s, Pyr.isi_bool_l, Pyr.isi_bool_t, Pyr.isi_bool_d, Pyr.isi_list_n, Pyr.isi_list_b, Pyr.isi_list_i, Pyr.isi_list_s, Pyr.isi_list_l, Pyr.isi_list_t, Pyr.isi_list_d, Pyr.isi_tuple_n, Pyr.isi_tuple_b, Pyr.isi_tuple_i, Pyr.isi_tuple_s, Pyr.isi_tuple_l, Pyr.isi_tuple_t, Pyr.isi_tuple_d, Pyr.isi_dict_n, Pyr.isi_dict_b, Pyr.isi_dict_i, Pyr.isi_dict_s, Pyr.isi_dict_l, Pyr.isi_dict_t, Pyr.isi_dict_d, Nat.reduceAdd, Int.cast_ofNat_Int, Int.natCast_zero, Int.natCast_one, Int.reduceEq, Int.reduceLT, Int.reduceLE, Int.reduceAdd, Int.reduceSub, Int.reduceMul, Int.reduceNeg, Int.reduceNe, Nat.zero_add, reduceIte, decide_eq_true_eq, beq_self_eq_true, eq_self, Bool.true_or, Bool.or_true, Bool.and_true, Bool.true_and, Bool.false_or, Bool.or_false, Bool.and_false, Bool.false_and, h0, en, hc]
theorem fact_run (S : List Tb) (ws : List Str) (vs : List Int) (hS : 1 ≤ S.length) (hS4 : S.length ≤ 4) (hw : 1 ≤ ws.length) (ht : ∀ t ∈ S, 1 ≤ t.2.1 ∧ t.2.1 ≤ 4) (hv : vs.length = 5) :
    ∃ f : Ft, m__law_fact [.list (S.map tbD), .list (ws.map .str), .list (vs.map .int)] = .ok (.val (ftD f)) ∧ (∃ t ∈ S, t.1 = f.1 ∧ f.2.length = t.2.1) ∧ ∀ w ∈ f.2, w ∈ ws := by
  have lS : (S.map tbD).length = S.length := List.length_map _
  have lw : (ws.map PyData.str).length = ws.length := List.length_map _
  have a0 : atD (.list (vs.map .int)) (.int 0) = .ok (.int vs[0]) := int_at (k := 0) (by omega)
  obtain ⟨n, en, hn⟩ := fmod_nat vs[0] (m := S.length) hS
  have an := tb_at (S := S) hn
  obtain ⟨t1, t2⟩ := ht S[n] (List.getElem_mem hn)
  obtain ⟨g, hg⟩ : ∃ g : Nat → Nat, ∀ k : Nat, ∀ v : Int, vs[1 + k]? = some v → v.fmod (ws.length : Int) = (g k : Int) ∧ g k < ws.length := by
    refine ⟨fun k => ((vs.getD (1 + k) 0).fmod (ws.length : Int)).toNat, fun k v hv => ?_⟩
    obtain ⟨j, ej, hj⟩ := fmod_nat v (m := ws.length) hw
    have : vs.getD (1 + k) 0 = v := by rw [List.getD_eq_getElem?_getD, hv]; rfl
    dsimp only
    rw [this, ej]
    exact ⟨by simp, by simpa using hj⟩
  refine ⟨(S[n].1, (List.range' 0 S[n].2.1).map fun k => ws.getD (g k) Str.empty), ?_, ⟨S[n], List.getElem_mem hn, rfl, by rw [List.length_map, List.length_range']⟩, fun w hw => ?_⟩
  · rw [u__law_fact]
    rw [defM_eq (np := 3) rfl]
    show outR (F__law_fact [.val (.list (S.map tbD)), .val (.list (ws.map .str)), .val (.list (vs.map .int)), .emp, .emp]) = _
    unfold F__law_fact
    have hS0 : (0 : Int) < (S.length : Int) := by omega
    rw [seq_ok (ρ' := [.val (.list (S.map tbD)), .val (.list (ws.map .str)), .val (.list (vs.map .int)), .val (tbD S[n]), .emp]) (by simp -implicitDefEqProofs (disch := omega) only [Pyr.run_flI, Pyr.run_flB, Pyr.run_flS, Pyr.run_flN, Pyr.sSeq, Pyr.sKill, Pyr.run_kill0, Pyr.run_killS, Pyr.sIf, Pyr.sSet, Pyr.sSetL, Pyr.sRet, Pyr.sRetL, Pyr.sRetN, Pyr.sRetO, Pyr.sDrop, Pyr.sApp, Pyr.sNext, Pyr.sFrz, Pyr.sSetT, Pyr.tgF, Pyr.setsF, Pyr.evP, Pyr.evL, Pyr.evT, Pyr.bare, Pyr.eC, Pyr.e1, Pyr.e2, Pyr.eN, Pyr.aC, Pyr.a0, Pyr.eIf, Pyr.eAnd, Pyr.eOr, Pyr.eNot, Pyr.eChain, Pyr.tE, Pyr.tNotR, Pyr.tAndR, Pyr.tOrR, Pyr.eCall, Pyr.lCall, Pyr.iF, Pyr.iF2, Pyr.lN, Pyr.lF, Pyr.eFs, Pyr.jC, Pyr.j0, Pyr.eIxV, Pyr.ownI, Pyr.lAdd, Pyr.sExt, Pyr.sPop, Pyr.trF, Pyr.trsF, Trs.len, Pyr.run_max2, Pyr.run_min2, Pyr.backD, Pyr.eSlice, Pyr.oNone, Pyr.oSome, Pyr.optI, Pyr.lSlice, Pyr.listD, eL, Pyr.eB, Pyr.oneD, Pyr.oneL, Pyr.itemsD, Pyr.outR, Pyr.ownD, Pyr.RV.d, Pyr.tupD, Pyr.run_mul, Pyr.run_mulS, Pyr.run_add, Pyr.run_sub, Pyr.run_addS, Pyr.run_mod, Pyr.run_fdiv, Pyr.run_lt, Pyr.run_le, Pyr.run_gt, Pyr.run_ge, Pyr.run_lenL, Pyr.run_lenT, Pyr.run_lenS, Pyr.run_int, Pyr.run_bool, Pyr.run_truB, Pyr.run_truL, Pyr.run_pur1, Pyr.run_frz1, Pyr.run_pSv, Pyr.run_pSo, Pyr.run_pSe, Pyr.run_fSv, Pyr.run_fSo, Pyr.run_fSe, Pyr.run_pur0, Pyr.run_frz0, Pyr.run_v0n, Pyr.run_v0b, Pyr.run_v0i, Pyr.run_v0s, Pyr.run_v0l, Pyr.run_v0t, Pyr.run_v0o, Pyr.run_vN, Pyr.run_vS, Pyr.run_bad, Pyr.run_exc, Pyr.run_map, Pyr.run_okL, List.length_cons, List.length_nil, Pyr.bind_ok, List.set_cons_zero, List.set_cons_succ, List.getElem?_cons_zero, List.getElem?_cons_succ, Pyr.eqD_int, Pyr.eqD_str, Pyr.neD_int, Pyr.neD_str, if_true, if_false, Bool.not_true, Bool.not_false, Bool.false_eq_true, decide_true, decide_false, Pyr.run_atT0, Pyr.run_atT1, Pyr.run_atT2, Pyr.run_atT3, Pyr.run_atT4, Pyr.run_atL0, Pyr.run_atL1, Pyr.run_atL2, Pyr.run_atL3, Pyr.run_atL4, Pyr.isi_str_n, Pyr.isi_str_b, Pyr.isi_str_i, Pyr.isi_str_s, Pyr.isi_str_l, Pyr.isi_str_t, Pyr.isi_str_d, Pyr.isi_int_n, Pyr.isi_int_b, Pyr.isi_int_i, Pyr.isi_int_s, Pyr.isi_int_l, Pyr.isi_int_t, Pyr.isi_int_d, Pyr.isi_bool_n, Pyr.isi_bool_b, Pyr.isi_bool_i, Pyr.isi_bool_s, Pyr.isi_bool_l, Pyr.isi_bool_t, Pyr.isi_bool_d, Pyr.isi_list_n, Pyr.isi_list_b, Pyr.isi_list_i, Pyr.isi_list_s, Pyr.isi_list_l, Pyr.isi_list_t, Pyr.isi_list_d, Pyr.isi_tuple_n, Pyr.isi_tuple_b, Pyr.isi_tuple_i, Pyr.isi_tuple_s, Pyr.isi_tuple_l, Pyr.isi_tuple_t, Pyr.isi_tuple_d, Pyr.isi_dict_n, Pyr.isi_dict_b, Pyr.isi_dict_i, Pyr.isi_dict_s, Pyr.isi_dict_l, Pyr.isi_dict_t, Pyr.isi_dict_d, Nat.reduceAdd, Int.cast_ofNat_Int, Int.natCast_zero, Int.natCast_one, Int.reduceEq, Int.reduceLT, Int.reduceLE, Int.reduceAdd, Int.reduceSub, Int.reduceMul, Int.reduceNeg, Int.reduceNe, Nat.zero_add, reduceIte, decide_eq_true_eq, beq_self_eq_true, eq_self, Bool.true_or, Bool.or_true, Bool.and_true, Bool.true_and, Bool.false_or, Bool.or_false, Bool.and_false, Bool.false_and, a0, lS, en, an])]
    have hr : r1D (.int (S[n].2.1 : Int)) = .ok ((List.range' 0 S[n].2.1).map fun k : Nat => .int (k : Int)) := (r1D_nat (by show _ ≤ 100000; omega)).trans (congrArg Res.ok (upto_map _ 0))
    have hc : (lComp [4] (Tg.nm 4) (iF r1D (Pyr.e2 atD (eVar 3) (eC (.int 1)))) tYesR (Pyr.e2 atD (eVar 1) (Pyr.e2 modD (eN (oneD int2D) (aC (Pyr.e2 atD (eVar 2) (Pyr.e2 addD (eC (.int 1)) (eVar 4))) Pyr.a0)) (eN (oneD lenD) (aC (eVar 1) Pyr.a0))))) (purE [.val (.list (S.map tbD)), .val (.list (ws.map .str)), .val (.list (vs.map .int)), .val (tbD S[n]), .emp]) = .ok (((List.range' 0 S[n].2.1).map fun k => ws.getD (g k) Str.empty).map .str) := by
      rw [List.map_map]
      refine lComp_ok ((iF_ok (x := .int (S[n].2.1 : Int)) ?_).trans hr) (by rw [List.length_map, List.length_range']; omega) (compF_en _ _ _ fun k hk => ⟨_, rfl, rfl, ?_⟩)
      · simp -implicitDefEqProofs (disch := omega) only [Pyr.run_flI, Pyr.run_flB, Pyr.run_flS, Pyr.run_flN, Pyr.sSeq, Pyr.sKill, Pyr.run_kill0, Pyr.run_killS, Pyr.sIf, Pyr.sSet, Pyr.sSetL, Pyr.sRet, Pyr.sRetL, Pyr.sRetN, Pyr.sRetO, Pyr.sDrop, Pyr.sApp, Pyr.sNext, Pyr.sFrz, Pyr.sSetT, Pyr.tgF, Pyr.setsF, Pyr.evP, Pyr.evL, Pyr.evT, Pyr.bare, Pyr.eC, Pyr.e1, Pyr.e2, Pyr.eN, Pyr.aC, Pyr.a0, Pyr.eIf, Pyr.eAnd, Pyr.eOr, Pyr.eNot, Pyr.eChain, Pyr.tE, Pyr.tNotR, Pyr.tAndR, Pyr.tOrR, Pyr.eCall, Pyr.lCall, Pyr.iF, Pyr.iF2, Pyr.lN, Pyr.lF, Pyr.eFs, Pyr.jC, Pyr.j0, Pyr.eIxV, Pyr.ownI, Pyr.lAdd, Pyr.sExt, Pyr.sPop, Pyr.trF, Pyr.trsF, Trs.len, Pyr.run_max2, Pyr.run_min2, Pyr.backD, Pyr.eSlice, Pyr.oNone, Pyr.oSome, Pyr.optI, Pyr.lSlice, Pyr.listD, eL, Pyr.eB, Pyr.oneD, Pyr.oneL, Pyr.itemsD, Pyr.outR, Pyr.ownD, Pyr.RV.d, Pyr.tupD, Pyr.run_mul, Pyr.run_mulS, Pyr.run_add, Pyr.run_sub, Pyr.run_addS, Pyr.run_mod, Pyr.run_fdiv, Pyr.run_lt, Pyr.run_le, Pyr.run_gt, Pyr.run_ge, Pyr.run_lenL, Pyr.run_lenT, Pyr.run_lenS, Pyr.run_int, Pyr.run_bool, Pyr.run_truB, Pyr.run_truL, Pyr.run_pur1, Pyr.run_frz1, Pyr.run_pSv, Pyr.run_pSo, Pyr.run_pSe, Pyr.run_fSv, Pyr.run_fSo, Pyr.run_fSe, Pyr.run_pur0, Pyr.run_frz0, Pyr.run_v0n, Pyr.run_v0b, Pyr.run_v0i, Pyr.run_v0s, Pyr.run_v0l, Pyr.run_v0t, Pyr.run_v0o, Pyr.run_vN, Pyr.run_vS, Pyr.run_bad, Pyr.run_exc, Pyr.run_map, Pyr.run_okL, List.length_cons, List.length_nil, Pyr.bind_ok, List.set_cons_zero, List.set_cons_succ, List.getElem?_cons_zero, List.getElem?_cons_succ, Pyr.eqD_int, Pyr.eqD_str, Pyr.neD_int, Pyr.neD_str, if_true, if_false, Bool.not_true, Bool.not_false, Bool.false_eq_true, decide_true, decide_false, Pyr.run_atT0, Pyr.run_atT1, Pyr.run_atT2, Pyr.run_atT3, Pyr.run_atT4, Pyr.run_atL0, Pyr.run_atL1, Pyr.run_atL2, Pyr.run_atL3, Pyr.run_atL4, Pyr.isi_str_n, Pyr.isi_str_b, Pyr.isi_str_i, Pyr.isi_str_s, Pyr.isi_str_l, Pyr.isi_str_t, Pyr.isi_str_d, Pyr.isi_int_n, Pyr.isi_int_b, Pyr.isi_int_i, Pyr.isi_int_s, Pyr.isi_int_l, Pyr.isi_int_t, Pyr.isi_int_d, Pyr.isi_bool_n, Pyr.isi_bool_b, Pyr.isi_bool_i, Pyr.isi_bool_s, Pyr.isi_bool_l, Pyr.isi_bool_t, Pyr.isi_bool_d, Pyr.isi_list_n, Pyr.isi_list_b, Pyr.isi_list_i, Pyr.isi_list_s, Pyr.isi_list_l, Pyr.isi_list_t, Pyr.isi_list_d, Pyr.isi_tuple_n, Pyr.isi_tuple_b, Pyr.isi_tuple_i, Pyr.isi_tuple_s, Pyr.isi_tuple_l, Pyr.isi_tuple_t, Pyr.isi_tuple_d, Pyr.isi_dict_n, Pyr.isi_dict_b, Pyr.isi_dict_i, Pyr.isi_dict_s, Pyr.isi_dict_l, Pyr.isi_dict_t, Pyr.isi_dict_d, Nat.reduceAdd, Int.cast_ofNat_Int, Int.natCast_zero, Int.natCast_one, Int.reduceEq, Int.reduceLT, Int.reduceLE, Int.reduceAdd, Int.reduceSub, Int.reduceMul, Int.reduceNeg, Int.reduceNe, Nat.zero_add, reduceIte, decide_eq_true_eq, beq_self_eq_true, eq_self, Bool.true_or, Bool.or_true, Bool.and_true, Bool.true_and, Bool.false_or, Bool.or_false, Bool.and_false, Bool.false_and, v0_tb, tb_1]
      · have hk := (List.mem_range'_1.mp hk).2
        have a1 : atD (.list (vs.map .int)) (.int (1 + (k : Int))) = .ok (.int vs[1 + k]) := int_at (k := 1 + k) (by omega)
        obtain ⟨g1, g2⟩ := hg k vs[1 + k] (List.getElem?_eq_getElem _)
        have a2 := str_at g2
        simp -implicitDefEqProofs (disch := omega) only [Pyr.run_flI, Pyr.run_flB, Pyr.run_flS, Pyr.run_flN, Pyr.sSeq, Pyr.sKill, Pyr.run_kill0, Pyr.run_killS, Pyr.sIf, Pyr.sSet, Pyr.sSetL, Pyr.sRet, Pyr.sRetL, Pyr.sRetN, Pyr.sRetO, Pyr.sDrop, Pyr.sApp, Pyr.sNext, Pyr.sFrz, Pyr.sSetT, Pyr.tgF, Pyr.setsF, Pyr.evP, Pyr.evL, Pyr.evT, Pyr.bare, Pyr.eC, Pyr.e1, Pyr.e2, Pyr.eN, Pyr.aC, Pyr.a0, Pyr.eIf, Pyr.eAnd, Pyr.eOr, Pyr.eNot, Pyr.eChain, Pyr.tE, Pyr.tNotR, Pyr.tAndR, Pyr.tOrR, Pyr.eCall, Pyr.lCall, Pyr.iF, Pyr.iF2, Pyr.lN, Pyr.lF, Pyr.eFs, Pyr.jC, Pyr.j0, Pyr.eIxV, Pyr.ownI, Pyr.lAdd, Pyr.sExt, Pyr.sPop, Pyr.trF, Pyr.trsF, Trs.len, Pyr.run_max2, Pyr.run_min2, Pyr.backD, Pyr.eSlice, Pyr.oNone, Pyr.oSome, Pyr.optI, Pyr.lSlice, Pyr.listD, eL, Pyr.eB, Pyr.oneD, Pyr.oneL, Pyr.itemsD, Pyr.outR, Pyr.ownD, Pyr.RV.d, Pyr.tupD, Pyr.run_mul, Pyr.run_mulS, Pyr.run_add, Pyr.run_sub, Pyr.run_addS, Pyr.run_mod, Pyr.run_fdiv, Pyr.run_lt, Pyr.run_le, Pyr.run_gt, Pyr.run_ge, Pyr.run_lenL, Pyr.run_lenT, Pyr.run_lenS, Pyr.run_int, Pyr.run_bool, Pyr.run_truB, Pyr.run_truL, Pyr.run_pur1, Pyr.run_frz1, Pyr.run_pSv, Pyr.run_pSo, Pyr.run_pSe, Pyr.run_fSv, Pyr.run_fSo, Pyr.run_fSe, Pyr.run_pur0, Pyr.run_frz0, Pyr.run_v0n, Pyr.run_v0b, Pyr.run_v0i, Pyr.run_v0s, Pyr.run_v0l, Pyr.run_v0t, Pyr.run_v0o, Pyr.run_vN, Pyr.run_vS, Pyr.run_bad, Pyr.run_exc, Pyr.run_map, Pyr.run_okL, List.length_cons, List.length_nil, Pyr.bind_ok, List.set_cons_zero, List.set_cons_succ, List.getElem?_cons_zero, List.getElem?_cons_succ, Pyr.eqD_int, Pyr.eqD_str, Pyr.neD_int, Pyr.neD_str, if_true, if_false, Bool.not_true, Bool.not_false, Bool.false_eq_true, decide_true, decide_false, Pyr.run_atT0, Pyr.run_atT1, Pyr.run_atT2, Pyr.run_atT3, Pyr.run_atT4, Pyr.run_atL0, Pyr.run_atL1, Pyr.run_atL2, Pyr.run_atL3, Pyr.run_atL4, Pyr.isi_str_n, Pyr.isi_str_b, Pyr.isi_str_i, Pyr.isi_str_s, Pyr.isi_str_l, Pyr.isi_str_t, Pyr.isi_str_d, Pyr.isi_int_n, Pyr.isi_int_b, Pyr.isi_int_i, Pyr.isi_int_s, Pyr.isi_int_l, Pyr.isi_int_t, Pyr.isi_int_d, Pyr.isi_bool_n, Pyr.isi_bool_b, Pyr.isi_bool_i, Pyr.isi_bool_s, Pyr.isi_bool_l, Pyr.isi_bool_t, Pyr.isi_bool_d, Pyr.isi_list_n, Pyr.isi_list_b, Pyr.isi_list_i, Pyr.isi_list_s, Pyr.isi_list_l, Pyr.isi_list_t, Pyr.isi_list_d, Pyr.isi_tuple_n, Pyr.isi_tuple_b, Pyr.isi_tuple_i, Pyr.isi_tuple_s, Pyr.isi_tuple_l, Pyr.isi_tuple_t, Pyr.isi_tuple_d, Pyr.isi_dict_n, Pyr.isi_dict_b, Pyr.isi_dict_i, Pyr.isi_dict_s, Pyr.isi_dict_l, Pyr.isi_dict_t, Pyr.isi_dict_d, Nat.reduceAdd, Int.cast_ofNat_Int, Int.natCast_zero, Int.natCast_one, Int.reduceEq, Int.reduceLT, Int.reduceLE, Int.reduceAdd, Int.reduceSub, Int.reduceMul, Int.reduceNeg, Int.reduceNe, Nat.zero_add, reduceIte, decide_eq_true_eq, beq_self_eq_true, eq_self, Bool.true_or, Bool.or_true, Bool.and_true, Bool.true_and, Bool.false_or, Bool.or_false, Bool.and_false, Bool.false_and, wipeE, tgE, a1, lw, g1, a2, Function.comp]
        rw [List.getD_eq_getElem?_getD, List.getElem?_eq_getElem g2]
        rfl
    rw [ret_ok (d := ftD (S[n].1, (List.range' 0 S[n].2.1).map fun k => ws.getD (g k) Str.empty))]
    · rfl
    · refine (eN_ok (xs := [.str S[n].1, .tuple (((List.range' 0 S[n].2.1).map fun k => ws.getD (g k) Str.empty).map .str)]) (aC_ok ?_ (aC_ok ?_ rfl))).trans rfl
      · simp -implicitDefEqProofs (disch := omega) only [Pyr.run_flI, Pyr.run_flB, Pyr.run_flS, Pyr.run_flN, Pyr.sSeq, Pyr.sKill, Pyr.run_kill0, Pyr.run_killS, Pyr.sIf, Pyr.sSet, Pyr.sSetL, Pyr.sRet, Pyr.sRetL, Pyr.sRetN, Pyr.sRetO, Pyr.sDrop, Pyr.sApp, Pyr.sNext, Pyr.sFrz, Pyr.sSetT, Pyr.tgF, Pyr.setsF, Pyr.evP, Pyr.evL, Pyr.evT, Pyr.bare, Pyr.eC, Pyr.e1, Pyr.e2, Pyr.eN, Pyr.aC, Pyr.a0, Pyr.eIf, Pyr.eAnd, Pyr.eOr, Pyr.eNot, Pyr.eChain, Pyr.tE, Pyr.tNotR, Pyr.tAndR, Pyr.tOrR, Pyr.eCall, Pyr.lCall, Pyr.iF, Pyr.iF2, Pyr.lN, Pyr.lF, Pyr.eFs, Pyr.jC, Pyr.j0, Pyr.eIxV, Pyr.ownI, Pyr.lAdd, Pyr.sExt, Pyr.sPop, Pyr.trF, Pyr.trsF, Trs.len, Pyr.run_max2, Pyr.run_min2, Pyr.backD, Pyr.eSlice, Pyr.oNone, Pyr.oSome, Pyr.optI, Pyr.lSlice, Pyr.listD, eL, Pyr.eB, Pyr.oneD, Pyr.oneL, Pyr.itemsD, Pyr.outR, Pyr.ownD, Pyr.RV.d, Pyr.tupD, Pyr.run_mul, Pyr.run_mulS, Pyr.run_add, Pyr.run_sub, Pyr.run_addS, Pyr.run_mod, Pyr.run_fdiv, Pyr.run_lt, Pyr.run_le, Pyr.run_gt, Pyr.run_ge, Pyr.run_lenL, Pyr.run_lenT, Pyr.run_lenS, Pyr.run_int, Pyr.run_bool, Pyr.run_truB, Pyr.run_truL, Pyr.run_pur1, Pyr.run_frz1, Pyr.run_pSv, Pyr.run_pSo, Pyr.run_pSe, Pyr.run_fSv, Pyr.run_fSo, Pyr.run_fSe, Pyr.run_pur0, Pyr.run_frz0, Pyr.run_v0n, Pyr.run_v0b, Pyr.run_v0i, Pyr.run_v0s, Pyr.run_v0l, Pyr.run_v0t, Pyr.run_v0o, Pyr.run_vN, Pyr.run_vS, Pyr.run_bad, Pyr.run_exc, Pyr.run_map, Pyr.run_okL, List.length_cons, List.length_nil, Pyr.bind_ok, List.set_cons_zero, List.set_cons_succ, List.getElem?_cons_zero, List.getElem?_cons_succ, Pyr.eqD_int, Pyr.eqD_str, Pyr.neD_int, Pyr.neD_str, if_true, if_false, Bool.not_true, Bool.not_false, Bool.false_eq_true, decide_true, decide_false, Pyr.run_atT0, Pyr.run_atT1, Pyr.run_atT2, Pyr.run_atT3, Pyr.run_atT4, Pyr.run_atL0, Pyr.run_atL1, Pyr.run_atL2, Pyr.run_atL3, Pyr.run_atL4, Pyr.isi_str_n, Pyr.isi_str_b, Pyr.isi_str_i, Pyr.isi_str_s, Pyr.isi_str_l, Pyr.isi_str_t, Pyr.isi_str_d, Pyr.isi_int_n, Pyr.isi_int_b, Pyr.isi_int_i, Pyr.isi_int_s, Pyr.isi_int_l, Pyr.isi_int_t, Pyr.isi_int_d, Pyr.isi_bool_n, Pyr.isi_bool_b, Pyr.isi_bool_i, Pyr.isi_bool_s, Pyr.isi_bool_l, Pyr.isi_bool_t, Pyr.isi_bool_d, Pyr.isi_list_n, Pyr.isi_list_b, Pyr.isi_list_i, Pyr.isi_list_s, Pyr.isi_list_l, Pyr.isi_list_t, Pyr.isi_list_d, Pyr.isi_tuple_n, Pyr.isi_tuple_b, Pyr.isi_tuple_i, Pyr.isi_tuple_s, Pyr.isi_tuple_l, Pyr.isi_tuple_t, Pyr.isi_tuple_d, Pyr.isi_dict_n, Pyr.isi_dict_b, Pyr.isi_dict_i, Pyr.isi_dict_s, Pyr.isi_dict_l, Pyr.isi_dict_t, Pyr.isi_dict_d, Nat.reduceAdd, Int.cast_ofNat_Int, Int.natCast_zero, Int.natCast_one, Int.reduceEq, Int.reduceLT, Int.reduceLE, Int.reduceAdd, Int.reduceSub, Int.reduceMul, Int.reduceNeg, Int.reduceNe, Nat.zero_add, reduceIte, decide_eq_true_eq, beq_self_eq_true, eq_self, Bool.true_or, Bool.or_true, Bool.and_true, Bool.true_and, Bool.false_or, Bool.or_false, Bool.and_false, Bool.false_and, v0_tb, tb_0]
      · show (((Res.map PyData.list (lComp [4] (Tg.nm 4) _ tYesR _ _)).bind fun x => Res.ok [x]).bind (oneD _)) = _
        rw [hc]
        rfl
  · obtain ⟨k, hk, rfl⟩ := List.mem_map.mp hw
    have hk := (List.mem_range'_1.mp hk).2
    obtain ⟨g1, g2⟩ := hg k vs[1 + k] (List.getElem?_eq_getElem (by omega))
    rw [List.getD_eq_getElem?_getD, List.getElem?_eq_getElem g2]
    exact List.getElem_mem _
theorem unmap {α : Type} {en : α → Pyr.D} {Q : α → Prop} : ∀ ys : List Pyr.D, (∀ y ∈ ys, ∃ f, y = en f ∧ Q f) → ∃ fs : List α, ys = fs.map en ∧ ∀ f ∈ fs, Q f
  | [], _ => ⟨[], rfl, fun f h => nomatch h⟩
  | y :: ys, h => by
    obtain ⟨f, rfl, q⟩ := h y List.mem_cons_self
    obtain ⟨fs, rfl, r⟩ := unmap ys fun z hz => h z (List.mem_cons_of_mem _ hz)
    exact ⟨f :: fs, rfl, fun g hg => (List.mem_cons.mp hg).elim (fun e => e ▸ q) (r g)⟩
def FtIn (S : List Tb) (ws : List Str) (f : Ft) : Prop := (∃ t ∈ S, t.1 = f.1 ∧ f.2.length = t.2.1) ∧ ∀ w ∈ f.2, w ∈ ws
theorem facts_run (S : List Tb) (ws : List Str) (vs : List Int) (m : Nat) (hS : 1 ≤ S.length) (hS4 : S.length ≤ 4) (hw : 1 ≤ ws.length) (ht : ∀ t ∈ S, 1 ≤ t.2.1 ∧ t.2.1 ≤ 4) (hv : 5 * m ≤ vs.length) (hm : m ≤ 1000) :
    ∃ fs : List Ft, m__law_facts [.list (S.map tbD), .list (ws.map .str), .list (vs.map .int), .int (m : Int)] = .ok (.own (fs.map ftD)) ∧ fs.length = m ∧ ∀ f ∈ fs, FtIn S ws f := by
  have hr : r1D (.int (m : Int)) = .ok ((List.range' 0 m).map fun k : Nat => .int (k : Int)) := (r1D_nat (by show _ ≤ 100000; omega)).trans (congrArg Res.ok (upto_map _ 0))
  rw [u__law_facts]
  rw [defM_eq (np := 4) rfl]
  show ∃ fs : List Ft, outR (F__law_facts [.val (.list (S.map tbD)), .val (.list (ws.map .str)), .val (.list (vs.map .int)), .val (.int (m : Int)), .emp]) = _ ∧ _
  unfold F__law_facts
  obtain ⟨ys, e, hl, hy⟩ := compF_exP (t := Tg.nm 4) (tt := tYesR) (fe := eCall m__law_fact (aC (eVar 0) (aC (eVar 1) (aC (eSlice (eVar 2) (oSome (Pyr.e2 mul2D (eC (.int 5)) (eVar 4))) (oSome (Pyr.e2 addD (Pyr.e2 mul2D (eC (.int 5)) (eVar 4)) (eC (.int 5))))) Pyr.a0))))
    (ρ := wipeE (purE [.val (.list (S.map tbD)), .val (.list (ws.map .str)), .val (.list (vs.map .int)), .val (.int (m : Int)), .emp]) [4]) (fun _ y => ∃ f, y = ftD f ∧ FtIn S ws f) ((List.range' 0 m).map fun k : Nat => .int (k : Int)) fun d hd => by
      obtain ⟨k, hk, rfl⟩ := List.mem_map.mp hd
      have hk := (List.mem_range'_1.mp hk).2
      have hc : sliceD (.list (vs.map .int)) (some (5 * (k : Int))) (some (5 * (k : Int) + 5)) = .ok (.list (((vs.drop (5 * k)).take 5).map .int)) := by
        have := cut_map vs (5 * k) (5 * k + 5) (by omega) (by omega)
        rw [show 5 * k + 5 - 5 * k = 5 by omega] at this
        exact congrArg (fun z => Res.ok (PyData.list z)) this
      obtain ⟨f, q1, q2, q3⟩ := fact_run S ws ((vs.drop (5 * k)).take 5) hS hS4 hw ht (by rw [List.length_take, List.length_drop]; omega)
      refine ⟨_, ftD f, rfl, rfl, ?_, f, rfl, q2, q3⟩
      simp -implicitDefEqProofs (disch := omega) only [Pyr.run_flI, Pyr.run_flB, Pyr.run_flS, Pyr.run_flN, Pyr.sSeq, Pyr.sKill, Pyr.run_kill0, Pyr.run_killS, Pyr.sIf, Pyr.sSet, Pyr.sSetL, Pyr.sRet, Pyr.sRetL, Pyr.sRetN, Pyr.sRetO, Pyr.sDrop, Pyr.sApp, Pyr.sNext, Pyr.sFrz, Pyr.sSetT, Pyr.tgF, Pyr.setsF, Pyr.evP, Pyr.evL, Pyr.evT, Pyr.bare, Pyr.eC, Pyr.e1, Pyr.e2, Pyr.eN, Pyr.aC, Pyr.a0, Pyr.eIf, Pyr.eAnd, Pyr.eOr, Pyr.eNot, Pyr.eChain, Pyr.tE, Pyr.tNotR, Pyr.tAndR, Pyr.tOrR, Pyr.eCall, Pyr.lCall, Pyr.iF, Pyr.iF2, Pyr.lN, Pyr.lF, Pyr.eFs, Pyr.jC, Pyr.j0, Pyr.eIxV, Pyr.ownI, Pyr.lAdd, Pyr.sExt, Pyr.sPop, Pyr.trF, Pyr.trsF, Trs.len, Pyr.run_max2, Pyr.run_min2, Pyr.backD, Pyr.eSlice, Pyr.oNone, Pyr.oSome, Pyr.optI, Pyr.lSlice, Pyr.listD, eL, Pyr.eB, Pyr.oneD, Pyr.oneL, Pyr.itemsD, Pyr.outR, Pyr.ownD, Pyr.RV.d, Pyr.tupD, Pyr.run_mul, Pyr.run_mulS, Pyr.run_add, Pyr.run_sub, Pyr.run_addS, Pyr.run_mod, Pyr.run_fdiv, Pyr.run_lt, Pyr.run_le, Pyr.run_gt, Pyr.run_ge, Pyr.run_lenL, Pyr.run_lenT, Pyr.run_lenS, Pyr.run_int, Pyr.run_bool, Pyr.run_truB, Pyr.run_truL, Pyr.run_pur1, Pyr.run_frz1, Pyr.run_pSv, Pyr.run_pSo, Pyr.run_pSe, Pyr.run_fSv, Pyr.run_fSo, Pyr.run_fSe, Pyr.run_pur0, Pyr.run_frz0, Pyr.run_v0n, Pyr.run_v0b, Pyr.run_v0i, Pyr.run_v0s, Pyr.run_v0l, Pyr.run_v0t, Pyr.run_v0o, Pyr.run_vN, Pyr.run_vS, Pyr.run_bad, Pyr.run_exc, Pyr.run_map, Pyr.run_okL, List.length_cons, List.length_nil, Pyr.bind_ok, List.set_cons_zero, List.set_cons_succ, List.getElem?_cons_zero, List.getElem?_cons_succ, Pyr.eqD_int, Pyr.eqD_str, Pyr.neD_int, Pyr.neD_str, if_true, if_false, Bool.not_true, Bool.not_false, Bool.false_eq_true, decide_true, decide_false, Pyr.run_atT0, Pyr.run_atT1, Pyr.run_atT2, Pyr.run_atT3, Pyr.run_atT4, Pyr.run_atL0, Pyr.run_atL1, Pyr.run_atL2, Pyr.run_atL3, Pyr.run_atL4, Pyr.isi_str_n, Pyr.isi_str_b, Pyr.isi_str_i, Pyr.isi_str_s, Pyr.isi_str_l, Pyr.isi_str_t, Pyr.isi_str_d, Pyr.isi_int_n, Pyr.isi_int_b, Pyr.isi_int_i, Pyr.isi_int_s, Pyr.isi_int_l, Pyr.isi_int_t, Pyr.isi_int_d, Pyr.isi_bool_n, Pyr.isi_bool_b, Pyr.isi_bool_i, Pyr.isi_bool_s, Pyr.isi_bool_l, Pyr.isi_bool_t, Pyr.isi_bool_d, Pyr.isi_list_n, Pyr.isi_list_b, Pyr.isi_list_i, Pyr.isi_list_s, Pyr.isi_list_l, Pyr.isi_list_t, Pyr.isi_list_d, Pyr.isi_tuple_n, Pyr.isi_tuple_b, Pyr.isi_tuple_i, Pyr.isi_tuple_s, Pyr.isi_tuple_l, Pyr.isi_tuple_t, Pyr.isi_tuple_d, Pyr.isi_dict_n, Pyr.isi_dict_b, Pyr.isi_dict_i, Pyr.isi_dict_s, Pyr.isi_dict_l, Pyr.isi_dict_t, Pyr.isi_dict_d, Nat.reduceAdd, Int.cast_ofNat_Int, Int.natCast_zero, Int.natCast_one, Int.reduceEq, Int.reduceLT, Int.reduceLE, Int.reduceAdd, Int.reduceSub, Int.reduceMul, Int.reduceNeg, Int.reduceNe, Nat.zero_add, reduceIte, decide_eq_true_eq, beq_self_eq_true, eq_self, Bool.true_or, Bool.or_true, Bool.and_true, Bool.true_and, Bool.false_or, Bool.or_false, Bool.and_false, Bool.false_and, wipeE, optI, hc, q1]
  obtain ⟨fs, rfl, hf⟩ := unmap ys fun y hy' => (hy y hy').choose_spec.2
  refine ⟨fs, ?_, by rw [List.length_map, List.length_map, List.length_range'] at hl; exact hl, hf⟩
  rw [retL_ok (lComp_ok ((iF_ok (x := .int (m : Int)) rfl).trans hr) (by rw [List.length_map, List.length_range']; omega) e)]
  rfl
end
end Com2

set_option Elab.async false
set_option autoImplicit false
set_option linter.all false
set_option maxRecDepth 100000
set_option maxHeartbeats 4000000
namespace Com2
noncomputable section
open PySem PySem.Spec PyProof.Rows L2 Evl Pyr
/-! ### ascending -/
theorem prd_inj {p q : Nat × List Str} (h : prD p = prD q) : p = q := by
  unfold prD at h
  injection h with h
  injection h with h1 h
  injection h with h2 _
  injection h1 with h1
  injection h2 with h2
  exact Prod.ext (by omega) (strs_inj h2)
theorem key_inj {S : List Tb} {f g : Ft} (hf : ∃ t ∈ S, t.1 = f.1) (hg : ∃ t ∈ S, t.1 = g.1) (h : keyP S f = keyP S g) : f = g := by
  obtain ⟨k, hk⟩ := plc_in hf
  obtain ⟨j, hj⟩ := plc_in hg
  unfold keyP at h
  rw [hk, hj] at h
  obtain ⟨k1, k2⟩ := plc_some hk
  obtain ⟨j1, j2⟩ := plc_some hj
  have e1 : k = j := congrArg Prod.fst h
  have e2 : f.2 = g.2 := (Prod.mk.inj h).2
  subst e1
  exact Prod.ext (k2.symm.trans j2) e2
theorem foldl_sub {α : Type} [DecidableEq α] : ∀ (xs acc : List α), ∃ ys, xs.foldl dstep acc = acc ++ ys ∧ ys.Sublist xs
  | [], acc => ⟨[], by simp, List.Sublist.refl _⟩
  | x :: xs, acc => by
    rw [List.foldl_cons]
    by_cases h : x ∈ acc
    · rw [show dstep acc x = acc from if_pos h]
      obtain ⟨ys, e, s⟩ := foldl_sub xs acc
      exact ⟨ys, e, s.cons x⟩
    · rw [show dstep acc x = acc ++ [x] from if_neg h]
      obtain ⟨ys, e, s⟩ := foldl_sub xs (acc ++ [x])
      exact ⟨x :: ys, by rw [e, List.append_assoc]; rfl, s.cons₂ x⟩
theorem asc_sorted (S : List Tb) (fs : List Ft) : (ascF S fs).Pairwise fun f g => leF S f g = true := by
  obtain ⟨ys, e, s⟩ := foldl_sub (fs.mergeSort (leF S)) []
  have e : ascF S fs = ys := e
  rw [e]
  exact (List.pairwise_mergeSort (le := leF S) (fun a b c h1 h2 => dle_trans (prD (keyP S a)) (prD (keyP S b)) (prD (keyP S c)) h1 h2) (fun a b => dle_total (prD (keyP S a)) (prD (keyP S b))) fs).sublist s
theorem map_inj_mem {α β : Type} (F : α → β) : ∀ {xs ys : List α}, (∀ x ∈ xs, ∀ y ∈ ys, F x = F y → x = y) → xs.map F = ys.map F → xs = ys
  | [], [], _, _ => rfl
  | [], _ :: _, _, h => nomatch h
  | _ :: _, [], _, h => nomatch h
  | x :: xs, y :: ys, k, h => by
    rw [List.map_cons, List.map_cons] at h
    injection h with h1 h2
    rw [k x List.mem_cons_self y List.mem_cons_self h1, map_inj_mem F (fun a ha b hb => k a (List.mem_cons_of_mem _ ha) b (List.mem_cons_of_mem _ hb)) h2]
theorem noB_pr (p : Nat × List Str) : noB (prD p) = true := by
  show (true && (noB (.tuple (p.2.map .str)) && true)) = true
  rw [noB_strs]
  rfl
def kF (S : List Tb) (f : Ft) : Pyr.D := prD (keyP S f)
theorem kF_inj {S : List Tb} {fs gs : List Ft} (hf : InS S fs) (hg : InS S gs) : ∀ x ∈ fs, ∀ y ∈ gs, kF S x = kF S y → x = y := fun x hx y hy e => key_inj (hf x hx).2 (hg y hy).2 (prd_inj e)
theorem nodup_map2 {α β : Type} (F : α → β) : ∀ {xs : List α}, (∀ x ∈ xs, ∀ y ∈ xs, F x = F y → x = y) → xs.Nodup → (xs.map F).Nodup
  | [], _, _ => List.nodup_nil
  | x :: xs, k, h => by
    obtain ⟨h1, h2⟩ := List.nodup_cons.mp h
    refine List.nodup_cons.mpr ⟨fun m => h1 ?_, nodup_map2 F (fun a ha b hb => k a (List.mem_cons_of_mem _ ha) b (List.mem_cons_of_mem _ hb)) h2⟩
    obtain ⟨y, hy, e⟩ := List.mem_map.mp m
    rw [← k y (List.mem_cons_of_mem _ hy) x List.mem_cons_self e]
    exact hy
/-- two ascending lists of the same facts, each once -/
theorem asc_unique {S : List Tb} {xs ys : List Ft} (hx : InS S xs) (hy : InS S ys) (sx : xs.Pairwise fun f g => leF S f g = true) (sy : ys.Pairwise fun f g => leF S f g = true) (nx : xs.Nodup) (ny : ys.Nodup) (m : ∀ f, f ∈ xs ↔ f ∈ ys) : xs = ys := by
  have p : xs.Perm ys := (List.perm_ext_iff_of_nodup nx ny).mpr m
  refine map_inj_mem (kF S) (kF_inj hx hy) (sort_unique (fun a ha b hb => ?_) (fun a ha => ?_) (p.map _) (List.pairwise_map.mpr sx) (List.pairwise_map.mpr sy))
  · obtain ⟨f, _, rfl⟩ := List.mem_map.mp ha
    obtain ⟨g, _, rfl⟩ := List.mem_map.mp hb
    exact alike_pr _ _
  · obtain ⟨f, _, rfl⟩ := List.mem_map.mp ha
    exact noB_pr _
theorem inS_sub {S : List Tb} {xs ys : List Ft} (h : InS S ys) (k : ∀ f ∈ xs, f ∈ ys) : InS S xs := fun f hf => h f (k f hf)
theorem asc_of {S : List Tb} {fs ys : List Ft} (h : InS S fs) (sy : ys.Pairwise fun f g => leF S f g = true) (ny : ys.Nodup) (m : ∀ f, f ∈ fs ↔ f ∈ ys) : ascF S fs = ys :=
  asc_unique (inS_sub h fun f hf => asc_mem.mp hf) (inS_sub h fun f hf => (m f).mpr hf) (asc_sorted S fs) sy (asc_nodup S fs) ny fun f => asc_mem.trans (m f)
theorem keyB_strs : ∀ r : List Str, keysB (r.map .str) = true
  | [] => rfl
  | x :: r => by
    show (true && keysB (r.map .str)) = true
    rw [keyB_strs r]
    rfl
theorem keyB_pr (p : Nat × List Str) : keyB (prD p) = true := by
  show (true && (keysB (p.2.map .str) && true)) = true
  rw [keyB_strs]
  rfl
theorem dep_pr (p : Nat × List Str) : (prD p).depth ≤ 8 := by
  show max 0 (max (PyData.depthAll (p.2.map .str) + 1) 0) + 1 ≤ 8
  rw [(flat_strs p.2).2]
  decide
theorem set_pr (S : List Tb) (fs : List Ft) (hf : fs.length ≤ 63) : setC (fs.map (kF S)) = true := by
  have a1 : ∀ d ∈ fs.map (kF S), ∃ p, d = prD p := fun d hd => by
    obtain ⟨f, _, rfl⟩ := List.mem_map.mp hd
    exact ⟨_, rfl⟩
  unfold setC
  simp only [Bool.and_eq_true]
  refine ⟨⟨⟨⟨keysB_of fun d hd => ?_, ?_⟩, List.all_eq_true.mpr fun d hd => ?_⟩, List.all_eq_true.mpr fun d hd => ?_⟩, decide_eq_true (by rw [List.length_map]; exact hf)⟩
  · obtain ⟨p, rfl⟩ := a1 d hd
    exact keyB_pr p
  · refine List.all_eq_true.mpr fun d hd => List.all_eq_true.mpr fun e he => ?_
    obtain ⟨p, rfl⟩ := a1 d hd
    obtain ⟨q, rfl⟩ := a1 e he
    exact alike_pr p q
  · obtain ⟨p, rfl⟩ := a1 d hd
    rfl
  · obtain ⟨p, rfl⟩ := a1 d hd
    exact decide_eq_true (dep_pr p)
theorem sortS_pr (S : List Tb) (fs : List Ft) (hf : fs.length ≤ 63) (h : InS S fs) : sortS (fs.map (kF S)) = .ok ((ascF S fs).map (kF S)) := by
  have hc := set_pr S fs hf
  have kb := (setC_parts hc).1
  have ha := inS_sub h fun f (hf : f ∈ ascF S fs) => asc_mem.mp hf
  unfold sortS
  rw [if_pos hc]
  congr 1
  have al : ∀ x ∈ uniqD (fs.map (kF S)), ∃ p, x = prD p := fun x hx => by
    obtain ⟨f, _, rfl⟩ := List.mem_map.mp (uniq_sub hx)
    exact ⟨_, rfl⟩
  have pm := List.mergeSort_perm (uniqD (fs.map (kF S))) (PySem.W.dataLe false id)
  have pq : (uniqD (fs.map (kF S))).Perm ((ascF S fs).map (kF S)) := (List.perm_ext_iff_of_nodup (uniq_nodup _) (nodup_map2 _ (kF_inj ha ha) (asc_nodup S fs))).mpr fun d => by
    rw [uniq_mem kb, List.mem_map, List.mem_map]
    exact ⟨fun ⟨f, a, b⟩ => ⟨f, asc_mem.mpr a, b⟩, fun ⟨f, a, b⟩ => ⟨f, asc_mem.mp a, b⟩⟩
  refine sort_unique (fun x hx y hy => ?_) (fun x hx => ?_) (pm.trans pq) (List.pairwise_mergeSort dle_trans dle_total _) (List.pairwise_map.mpr (asc_sorted S fs))
  · obtain ⟨p, rfl⟩ := al x (pm.mem_iff.mp hx)
    obtain ⟨q, rfl⟩ := al y (pm.mem_iff.mp hy)
    exact alike_pr p q
  · obtain ⟨p, rfl⟩ := al x (pm.mem_iff.mp hx)
    exact noB_pr p
theorem ascending_run (S : List Tb) (fs : List Ft) (hS : S.length ≤ 100) (hf : fs.length ≤ 63) (h : InS S fs) : m_ascending [.list (S.map tbD), .list (fs.map ftD)] = .ok (.own ((ascF S fs).map ftD)) := by
  rw [u_ascending]
  rw [defM_eq (np := 2) rfl]
  show outR (F_ascending [.val (.list (S.map tbD)), .val (.list (fs.map ftD)), .emp, .emp, .emp, .emp]) = _
  unfold F_ascending
  have hc : (lComp [5, 4] (Tg.tp [5, 4]) (iF walkD (eVar 1)) tYesR (eN tupD (aC (eCall m_place_of (aC (eVar 0) (aC (eVar 5) a0))) (aC (eVar 4) a0)))) (purE [.val (.list (S.map tbD)), .val (.list (fs.map ftD)), .emp, .emp, .emp, .emp]) = .ok (fs.map (kF S)) := by
    refine lComp_ok (ds := fs.map ftD) rfl (by rw [List.length_map]; omega) (compF_en _ _ _ fun f hf' => ⟨_, rfl, rfl, ?_⟩)
    obtain ⟨k, hk⟩ := plc_in (h f hf').2
    have hp := place_run S f.1 (by omega)
    rw [hk] at hp
    have e : kF S f = .tuple [.int (k : Int), .tuple (f.2.map .str)] := by unfold kF keyP; rw [hk]; rfl
    rw [e]
    simp -implicitDefEqProofs (disch := omega) only [Pyr.run_flI, Pyr.run_flB, Pyr.run_flS, Pyr.run_flN, Pyr.sSeq, Pyr.sKill, Pyr.run_kill0, Pyr.run_killS, Pyr.sIf, Pyr.sSet, Pyr.sSetL, Pyr.sRet, Pyr.sRetL, Pyr.sRetN, Pyr.sRetO, Pyr.sDrop, Pyr.sApp, Pyr.sNext, Pyr.sFrz, Pyr.sSetT, Pyr.tgF, Pyr.setsF, Pyr.evP, Pyr.evL, Pyr.evT, Pyr.bare, Pyr.eC, Pyr.e1, Pyr.e2, Pyr.eN, Pyr.aC, Pyr.a0, Pyr.eIf, Pyr.eAnd, Pyr.eOr, Pyr.eNot, Pyr.eChain, Pyr.tE, Pyr.tNotR, Pyr.tAndR, Pyr.tOrR, Pyr.eCall, Pyr.lCall, Pyr.iF, Pyr.iF2, Pyr.lN, Pyr.lF, Pyr.eFs, Pyr.jC, Pyr.j0, Pyr.eIxV, Pyr.ownI, Pyr.lAdd, Pyr.sExt, Pyr.sPop, Pyr.trF, Pyr.trsF, Trs.len, Pyr.run_max2, Pyr.run_min2, Pyr.backD, Pyr.eSlice, Pyr.oNone, Pyr.oSome, Pyr.optI, Pyr.lSlice, Pyr.listD, eL, Pyr.eB, Pyr.oneD, Pyr.oneL, Pyr.itemsD, Pyr.outR, Pyr.ownD, Pyr.RV.d, Pyr.tupD, Pyr.run_mul, Pyr.run_mulS, Pyr.run_add, Pyr.run_sub, Pyr.run_addS, Pyr.run_mod, Pyr.run_fdiv, Pyr.run_lt, Pyr.run_le, Pyr.run_gt, Pyr.run_ge, Pyr.run_lenL, Pyr.run_lenT, Pyr.run_lenS, Pyr.run_int, Pyr.run_bool, Pyr.run_truB, Pyr.run_truL, Pyr.run_pur1, Pyr.run_frz1, Pyr.run_pSv, Pyr.run_pSo, Pyr.run_pSe, Pyr.run_fSv, Pyr.run_fSo, Pyr.run_fSe, Pyr.run_pur0, Pyr.run_frz0, Pyr.run_v0n, Pyr.run_v0b, Pyr.run_v0i, Pyr.run_v0s, Pyr.run_v0l, Pyr.run_v0t, Pyr.run_v0o, Pyr.run_vN, Pyr.run_vS, Pyr.run_bad, Pyr.run_exc, Pyr.run_map, Pyr.run_okL, List.length_cons, List.length_nil, Pyr.bind_ok, List.set_cons_zero, List.set_cons_succ, List.getElem?_cons_zero, List.getElem?_cons_succ, Pyr.eqD_int, Pyr.eqD_str, Pyr.neD_int, Pyr.neD_str, if_true, if_false, Bool.not_true, Bool.not_false, Bool.false_eq_true, decide_true, decide_false, Pyr.run_atT0, Pyr.run_atT1, Pyr.run_atT2, Pyr.run_atT3, Pyr.run_atT4, Pyr.run_atL0, Pyr.run_atL1, Pyr.run_atL2, Pyr.run_atL3, Pyr.run_atL4, Pyr.isi_str_n, Pyr.isi_str_b, Pyr.isi_str_i, Pyr.isi_str_s, Pyr.isi_str_l, Pyr.isi_str_t, Pyr.isi_str_d, Pyr.isi_int_n, Pyr.isi_int_b, Pyr.isi_int_i, Pyr.isi_int_s, Pyr.isi_int_l, Pyr.isi_int_t, Pyr.isi_int_d, Pyr.isi_bool_n, Pyr.isi_bool_b, Pyr.isi_bool_i, Pyr.isi_bool_s, Pyr.isi_bool_l, Pyr.isi_bool_t, Pyr.isi_bool_d, Pyr.isi_list_n, Pyr.isi_list_b, Pyr.isi_list_i, Pyr.isi_list_s, Pyr.isi_list_l, Pyr.isi_list_t, Pyr.isi_list_d, Pyr.isi_tuple_n, Pyr.isi_tuple_b, Pyr.isi_tuple_i, Pyr.isi_tuple_s, Pyr.isi_tuple_l, Pyr.isi_tuple_t, Pyr.isi_tuple_d, Pyr.isi_dict_n, Pyr.isi_dict_b, Pyr.isi_dict_i, Pyr.isi_dict_s, Pyr.isi_dict_l, Pyr.isi_dict_t, Pyr.isi_dict_d, Nat.reduceAdd, Int.cast_ofNat_Int, Int.natCast_zero, Int.natCast_one, Int.reduceEq, Int.reduceLT, Int.reduceLE, Int.reduceAdd, Int.reduceSub, Int.reduceMul, Int.reduceNeg, Int.reduceNe, Nat.zero_add, reduceIte, decide_eq_true_eq, beq_self_eq_true, eq_self, Bool.true_or, Bool.or_true, Bool.and_true, Bool.true_and, Bool.false_or, Bool.or_false, Bool.and_false, Bool.false_and, wipeE, tgE, setsE, hp]
  have hs : (lSortC [5, 4] (Tg.tp [5, 4]) (iF walkD (eVar 1)) tYesR (eN tupD (aC (eCall m_place_of (aC (eVar 0) (aC (eVar 5) a0))) (aC (eVar 4) a0)))) (purE [.val (.list (S.map tbD)), .val (.list (fs.map ftD)), .emp, .emp, .emp, .emp]) = .ok ((ascF S fs).map (kF S)) := by
    unfold lSortC
    rw [hc]
    exact sortS_pr S fs hf h
  rw [seq_ok (set_ok (d := .list ((ascF S fs).map (kF S))) (mapL_ok hs))]
  rw [retL_ok (ds := (ascF S fs).map ftD)]
  · rfl
  · refine lComp_ok (ds := (ascF S fs).map (kF S)) rfl (by rw [List.length_map]; have := asc_le S fs; omega) (compF_en _ _ _ fun f hf' => ⟨_, rfl, rfl, ?_⟩)
    obtain ⟨k, hk⟩ := plc_in (h f (asc_mem.mp hf')).2
    obtain ⟨k1, k2⟩ := plc_some hk
    have ha : atD (.list (S.map tbD)) (.int ((keyP S f).1 : Int)) = .ok (tbD S[k]) := by
      rw [show (keyP S f).1 = k by unfold keyP; rw [hk]; rfl]
      exact tb_at k1
    simp -implicitDefEqProofs (disch := omega) only [Pyr.run_flI, Pyr.run_flB, Pyr.run_flS, Pyr.run_flN, Pyr.sSeq, Pyr.sKill, Pyr.run_kill0, Pyr.run_killS, Pyr.sIf, Pyr.sSet, Pyr.sSetL, Pyr.sRet, Pyr.sRetL, Pyr.sRetN, Pyr.sRetO, Pyr.sDrop, Pyr.sApp, Pyr.sNext, Pyr.sFrz, Pyr.sSetT, Pyr.tgF, Pyr.setsF, Pyr.evP, Pyr.evL, Pyr.evT, Pyr.bare, Pyr.eC, Pyr.e1, Pyr.e2, Pyr.eN, Pyr.aC, Pyr.a0, Pyr.eIf, Pyr.eAnd, Pyr.eOr, Pyr.eNot, Pyr.eChain, Pyr.tE, Pyr.tNotR, Pyr.tAndR, Pyr.tOrR, Pyr.eCall, Pyr.lCall, Pyr.iF, Pyr.iF2, Pyr.lN, Pyr.lF, Pyr.eFs, Pyr.jC, Pyr.j0, Pyr.eIxV, Pyr.ownI, Pyr.lAdd, Pyr.sExt, Pyr.sPop, Pyr.trF, Pyr.trsF, Trs.len, Pyr.run_max2, Pyr.run_min2, Pyr.backD, Pyr.eSlice, Pyr.oNone, Pyr.oSome, Pyr.optI, Pyr.lSlice, Pyr.listD, eL, Pyr.eB, Pyr.oneD, Pyr.oneL, Pyr.itemsD, Pyr.outR, Pyr.ownD, Pyr.RV.d, Pyr.tupD, Pyr.run_mul, Pyr.run_mulS, Pyr.run_add, Pyr.run_sub, Pyr.run_addS, Pyr.run_mod, Pyr.run_fdiv, Pyr.run_lt, Pyr.run_le, Pyr.run_gt, Pyr.run_ge, Pyr.run_lenL, Pyr.run_lenT, Pyr.run_lenS, Pyr.run_int, Pyr.run_bool, Pyr.run_truB, Pyr.run_truL, Pyr.run_pur1, Pyr.run_frz1, Pyr.run_pSv, Pyr.run_pSo, Pyr.run_pSe, Pyr.run_fSv, Pyr.run_fSo, Pyr.run_fSe, Pyr.run_pur0, Pyr.run_frz0, Pyr.run_v0n, Pyr.run_v0b, Pyr.run_v0i, Pyr.run_v0s, Pyr.run_v0l, Pyr.run_v0t, Pyr.run_v0o, Pyr.run_vN, Pyr.run_vS, Pyr.run_bad, Pyr.run_exc, Pyr.run_map, Pyr.run_okL, List.length_cons, List.length_nil, Pyr.bind_ok, List.set_cons_zero, List.set_cons_succ, List.getElem?_cons_zero, List.getElem?_cons_succ, Pyr.eqD_int, Pyr.eqD_str, Pyr.neD_int, Pyr.neD_str, if_true, if_false, Bool.not_true, Bool.not_false, Bool.false_eq_true, decide_true, decide_false, Pyr.run_atT0, Pyr.run_atT1, Pyr.run_atT2, Pyr.run_atT3, Pyr.run_atT4, Pyr.run_atL0, Pyr.run_atL1, Pyr.run_atL2, Pyr.run_atL3, Pyr.run_atL4, Pyr.isi_str_n, Pyr.isi_str_b, Pyr.isi_str_i, Pyr.isi_str_s, Pyr.isi_str_l, Pyr.isi_str_t, Pyr.isi_str_d, Pyr.isi_int_n, Pyr.isi_int_b, Pyr.isi_int_i, Pyr.isi_int_s, Pyr.isi_int_l, Pyr.isi_int_t, Pyr.isi_int_d, Pyr.isi_bool_n, Pyr.isi_bool_b, Pyr.isi_bool_i, Pyr.isi_bool_s, Pyr.isi_bool_l, Pyr.isi_bool_t, Pyr.isi_bool_d, Pyr.isi_list_n, Pyr.isi_list_b, Pyr.isi_list_i, Pyr.isi_list_s, Pyr.isi_list_l, Pyr.isi_list_t, Pyr.isi_list_d, Pyr.isi_tuple_n, Pyr.isi_tuple_b, Pyr.isi_tuple_i, Pyr.isi_tuple_s, Pyr.isi_tuple_l, Pyr.isi_tuple_t, Pyr.isi_tuple_d, Pyr.isi_dict_n, Pyr.isi_dict_b, Pyr.isi_dict_i, Pyr.isi_dict_s, Pyr.isi_dict_l, Pyr.isi_dict_t, Pyr.isi_dict_d, Nat.reduceAdd, Int.cast_ofNat_Int, Int.natCast_zero, Int.natCast_one, Int.reduceEq, Int.reduceLT, Int.reduceLE, Int.reduceAdd, Int.reduceSub, Int.reduceMul, Int.reduceNeg, Int.reduceNe, Nat.zero_add, reduceIte, decide_eq_true_eq, beq_self_eq_true, eq_self, Bool.true_or, Bool.or_true, Bool.and_true, Bool.true_and, Bool.false_or, Bool.or_false, Bool.and_false, Bool.false_and, wipeE, tgE, setsE, ha, tb_0, k2]
    rfl
/-! ### without -/
theorem keyB_ft (f : Ft) : keysB [PyData.str f.1, .tuple (f.2.map .str)] = true := by
  show (true && (keysB (f.2.map .str) && true)) = true
  rw [keyB_strs]
  rfl
theorem dep_ft (f : Ft) : (ftD f).depth ≤ 8 := by
  show max 0 (max (PyData.depthAll (f.2.map .str) + 1) 0) + 1 ≤ 8
  rw [(flat_strs f.2).2]
  decide
theorem keys_ft (fs : List Ft) : ∀ d ∈ fs.map ftD, keyB d = true ∧ tupB d = true ∧ d.depth ≤ 8 := fun d hd => by
  obtain ⟨f, _, rfl⟩ := List.mem_map.mp hd
  exact ⟨keyB_ft f, rfl, dep_ft f⟩
def minusF (xs ys : List Ft) : List Ft := xs.filter fun f => !decide (f ∈ ys)
theorem mem_minus {xs ys : List Ft} {f : Ft} : f ∈ minusF xs ys ↔ f ∈ xs ∧ f ∉ ys := by
  unfold minusF
  rw [List.mem_filter]
  simp
theorem without_run (xs ys : List Ft) (hx : xs.length ≤ 10000) (hy : ys.length ≤ 63) : m_without [.list (xs.map ftD), .list (ys.map ftD)] = .ok (.own ((minusF xs ys).map ftD)) := by
  rw [u_without]
  rw [defM_eq (np := 2) rfl]
  show outR (F_without [.val (.list (xs.map ftD)), .val (.list (ys.map ftD)), .emp, .emp]) = _
  unfold F_without
  have kk := keys_ft ys
  rw [seq_ok (setS_ok (ds := ys.map ftD) rfl (keys_ok kk (by rw [List.length_map]; exact hy)))]
  rw [retL_ok (ds := (minusF xs ys).map ftD)]
  · rfl
  · refine lComp_ok (ds := xs.map ftD) rfl (by rw [List.length_map]; omega) (compF_some _ _ _ xs fun f _ => ⟨_, rfl, ?_, fun _ => rfl⟩)
    refine (inK_ok (xs := [.str f.1, .tuple (f.2.map .str)]) (ds := ys.map ftD) rfl rfl (keyB_ft f) (dep_ft f) kk).trans ?_
    congr 1
    show (true != (ys.map ftD).any fun z => decide (nk z = nk (ftD f))) = !decide (f ∈ ys)
    rw [Bool.true_bne]
    congr 1
    rw [Bool.eq_iff_iff, any_nk (show keyB (ftD f) = true from keyB_ft f) fun d hd => (kk d hd).1, decide_eq_true_eq, List.mem_map]
    exact ⟨fun ⟨g, a, b⟩ => by rw [← ftE.inj g f b]; exact a, fun a => ⟨f, a, rfl⟩⟩
end
end Com2

set_option Elab.async false
set_option autoImplicit false
set_option linter.all false
set_option maxRecDepth 100000
set_option maxHeartbeats 4000000
namespace Com2
noncomputable section
open PySem PySem.Spec PyProof.Rows L2 Evl Pyr
/-! ### is it a list of facts, a change; what lies between two lists -/
theorem bools_true : ∀ n : Nat, boolsD (List.replicate n (.bool true)) = some (List.replicate n true)
  | 0 => rfl
  | n + 1 => by
    show (boolsD (List.replicate n (.bool true))).map _ = _
    rw [bools_true n]
    rfl
theorem all_true {ds : List Pyr.D} (h : ∀ d ∈ ds, d = .bool true) : allD (.list ds) = .ok (.bool true) := by
  have e : ds = List.replicate ds.length (.bool true) := List.eq_replicate_iff.mpr ⟨rfl, h⟩
  rw [e]
  unfold allD
  simp only
  rw [bools_true]
  show Res.ok (PyData.bool ((List.replicate ds.length true).all id)) = _
  rw [List.all_eq_true.mpr fun b hb => by rw [List.eq_of_mem_replicate hb]; rfl]
theorem isfacts_run (fs : List Ft) (hl : fs.length ≤ 10000) (hr : ∀ f ∈ fs, f.2.length ≤ 1000) : m__law_is_facts [.list (fs.map ftD)] = .ok (.val (.bool true)) := by
  rw [u__law_is_facts]
  rw [defM_eq (np := 1) rfl]
  show outR (F__law_is_facts [.val (.list (fs.map ftD)), .emp, .emp]) = _
  unfold F__law_is_facts
  obtain ⟨e, _⟩ := forF_fold (t := Tg.nm 1) (F := B__law_is_facts_0) ftD (fun _ : Unit => [.val (.list (fs.map ftD)), .emp, .emp]) (fun _ _ => ()) (fun _ => True) fs () trivial fun _ f hf _ => by
    refine ⟨⟨_, rfl, .inl ?_⟩, trivial⟩
    have hc : (lComp [2] (Tg.nm 2) (iF walkD (Pyr.e2 atD (eVar 1) (eC (.int 1)))) tYesR (e1 (isiD "str") (eVar 2))) (frzE [.val (.list (fs.map ftD)), .val (ftD f), .emp]) = .ok (f.2.map fun _ => .bool true) := by
      refine lComp_ok (ds := f.2.map .str) ?_ (by rw [List.length_map]; have := hr f hf; omega) (compF_en _ _ _ fun w _ => ⟨_, rfl, rfl, rfl⟩)
      refine (iF_ok (x := rwD f.2) ?_).trans rfl
      simp -implicitDefEqProofs (disch := omega) only [Pyr.run_flI, Pyr.run_flB, Pyr.run_flS, Pyr.run_flN, Pyr.sSeq, Pyr.sKill, Pyr.run_kill0, Pyr.run_killS, Pyr.sIf, Pyr.sSet, Pyr.sSetL, Pyr.sRet, Pyr.sRetL, Pyr.sRetN, Pyr.sRetO, Pyr.sDrop, Pyr.sApp, Pyr.sNext, Pyr.sFrz, Pyr.sSetT, Pyr.tgF, Pyr.setsF, Pyr.evP, Pyr.evL, Pyr.evT, Pyr.bare, Pyr.eC, Pyr.e1, Pyr.e2, Pyr.eN, Pyr.aC, Pyr.a0, Pyr.eIf, Pyr.eAnd, Pyr.eOr, Pyr.eNot, Pyr.eChain, Pyr.tE, Pyr.tNotR, Pyr.tAndR, Pyr.tOrR, Pyr.eCall, Pyr.lCall, Pyr.iF, Pyr.iF2, Pyr.lN, Pyr.lF, Pyr.eFs, Pyr.jC, Pyr.j0, Pyr.eIxV, Pyr.ownI, Pyr.lAdd, Pyr.sExt, Pyr.sPop, Pyr.trF, Pyr.trsF, Trs.len, Pyr.run_max2, Pyr.run_min2, Pyr.backD, Pyr.eSlice, Pyr.oNone, Pyr.oSome, Pyr.optI, Pyr.lSlice, Pyr.listD, eL, Pyr.eB, Pyr.oneD, Pyr.oneL, Pyr.itemsD, Pyr.outR, Pyr.ownD, Pyr.RV.d, Pyr.tupD, Pyr.run_mul, Pyr.run_mulS, Pyr.run_add, Pyr.run_sub, Pyr.run_addS, Pyr.run_mod, Pyr.run_fdiv, Pyr.run_lt, Pyr.run_le, Pyr.run_gt, Pyr.run_ge, Pyr.run_lenL, Pyr.run_lenT, Pyr.run_lenS, Pyr.run_int, Pyr.run_bool, Pyr.run_truB, Pyr.run_truL, Pyr.run_pur1, Pyr.run_frz1, Pyr.run_pSv, Pyr.run_pSo, Pyr.run_pSe, Pyr.run_fSv, Pyr.run_fSo, Pyr.run_fSe, Pyr.run_pur0, Pyr.run_frz0, Pyr.run_v0n, Pyr.run_v0b, Pyr.run_v0i, Pyr.run_v0s, Pyr.run_v0l, Pyr.run_v0t, Pyr.run_v0o, Pyr.run_vN, Pyr.run_vS, Pyr.run_bad, Pyr.run_exc, Pyr.run_map, Pyr.run_okL, List.length_cons, List.length_nil, Pyr.bind_ok, List.set_cons_zero, List.set_cons_succ, List.getElem?_cons_zero, List.getElem?_cons_succ, Pyr.eqD_int, Pyr.eqD_str, Pyr.neD_int, Pyr.neD_str, if_true, if_false, Bool.not_true, Bool.not_false, Bool.false_eq_true, decide_true, decide_false, Pyr.run_atT0, Pyr.run_atT1, Pyr.run_atT2, Pyr.run_atT3, Pyr.run_atT4, Pyr.run_atL0, Pyr.run_atL1, Pyr.run_atL2, Pyr.run_atL3, Pyr.run_atL4, Pyr.isi_str_n, Pyr.isi_str_b, Pyr.isi_str_i, Pyr.isi_str_s, Pyr.isi_str_l, Pyr.isi_str_t, Pyr.isi_str_d, Pyr.isi_int_n, Pyr.isi_int_b, Pyr.isi_int_i, Pyr.isi_int_s, Pyr.isi_int_l, Pyr.isi_int_t, Pyr.isi_int_d, Pyr.isi_bool_n, Pyr.isi_bool_b, Pyr.isi_bool_i, Pyr.isi_bool_s, Pyr.isi_bool_l, Pyr.isi_bool_t, Pyr.isi_bool_d, Pyr.isi_list_n, Pyr.isi_list_b, Pyr.isi_list_i, Pyr.isi_list_s, Pyr.isi_list_l, Pyr.isi_list_t, Pyr.isi_list_d, Pyr.isi_tuple_n, Pyr.isi_tuple_b, Pyr.isi_tuple_i, Pyr.isi_tuple_s, Pyr.isi_tuple_l, Pyr.isi_tuple_t, Pyr.isi_tuple_d, Pyr.isi_dict_n, Pyr.isi_dict_b, Pyr.isi_dict_i, Pyr.isi_dict_s, Pyr.isi_dict_l, Pyr.isi_dict_t, Pyr.isi_dict_d, Nat.reduceAdd, Int.cast_ofNat_Int, Int.natCast_zero, Int.natCast_one, Int.reduceEq, Int.reduceLT, Int.reduceLE, Int.reduceAdd, Int.reduceSub, Int.reduceMul, Int.reduceNeg, Int.reduceNe, Nat.zero_add, reduceIte, decide_eq_true_eq, beq_self_eq_true, eq_self, Bool.true_or, Bool.or_true, Bool.and_true, Bool.true_and, Bool.false_or, Bool.or_false, Bool.and_false, Bool.false_and, v0_ft, ft_1]
    have ha : (eN (oneD allD) (aC (eL (lComp [2] (Tg.nm 2) (iF walkD (Pyr.e2 atD (eVar 1) (eC (.int 1)))) tYesR (e1 (isiD "str") (eVar 2)))) Pyr.a0)) (frzE [.val (.list (fs.map ftD)), .val (ftD f), .emp]) = .ok (.bool true) := by
      refine (eN_ok (aC_ok (mapL_ok hc) rfl)).trans (show oneD allD [.list (f.2.map fun _ => .bool true)] = .ok (.bool true) from all_true fun d hd => ?_)
      obtain ⟨_, _, rfl⟩ := List.mem_map.mp hd
      rfl
    unfold B__law_is_facts_0
    have i1 : sIf (tOrR (tNotR (tE truD (e1 (isiD "tuple") (eVar 1)))) (tOrR (tE boolD (Pyr.e2 neD (eN (oneD lenD) (aC (eVar 1) Pyr.a0)) (eC (.int 2)))) (tNotR (tE truD (e1 (isiD "str") (Pyr.e2 atD (eVar 1) (eC (.int 0)))))))) (sRet (eC (.bool false))) sNext [.val (.list (fs.map ftD)), .val (ftD f), .emp] = .ok (.next [.val (.list (fs.map ftD)), .val (ftD f), .emp]) := by
      unfold ftD
      simp -implicitDefEqProofs (disch := omega) only [Pyr.run_flI, Pyr.run_flB, Pyr.run_flS, Pyr.run_flN, Pyr.sSeq, Pyr.sKill, Pyr.run_kill0, Pyr.run_killS, Pyr.sIf, Pyr.sSet, Pyr.sSetL, Pyr.sRet, Pyr.sRetL, Pyr.sRetN, Pyr.sRetO, Pyr.sDrop, Pyr.sApp, Pyr.sNext, Pyr.sFrz, Pyr.sSetT, Pyr.tgF, Pyr.setsF, Pyr.evP, Pyr.evL, Pyr.evT, Pyr.bare, Pyr.eC, Pyr.e1, Pyr.e2, Pyr.eN, Pyr.aC, Pyr.a0, Pyr.eIf, Pyr.eAnd, Pyr.eOr, Pyr.eNot, Pyr.eChain, Pyr.tE, Pyr.tNotR, Pyr.tAndR, Pyr.tOrR, Pyr.eCall, Pyr.lCall, Pyr.iF, Pyr.iF2, Pyr.lN, Pyr.lF, Pyr.eFs, Pyr.jC, Pyr.j0, Pyr.eIxV, Pyr.ownI, Pyr.lAdd, Pyr.sExt, Pyr.sPop, Pyr.trF, Pyr.trsF, Trs.len, Pyr.run_max2, Pyr.run_min2, Pyr.backD, Pyr.eSlice, Pyr.oNone, Pyr.oSome, Pyr.optI, Pyr.lSlice, Pyr.listD, eL, Pyr.eB, Pyr.oneD, Pyr.oneL, Pyr.itemsD, Pyr.outR, Pyr.ownD, Pyr.RV.d, Pyr.tupD, Pyr.run_mul, Pyr.run_mulS, Pyr.run_add, Pyr.run_sub, Pyr.run_addS, Pyr.run_mod, Pyr.run_fdiv, Pyr.run_lt, Pyr.run_le, Pyr.run_gt, Pyr.run_ge, Pyr.run_lenL, Pyr.run_lenT, Pyr.run_lenS, Pyr.run_int, Pyr.run_bool, Pyr.run_truB, Pyr.run_truL, Pyr.run_pur1, Pyr.run_frz1, Pyr.run_pSv, Pyr.run_pSo, Pyr.run_pSe, Pyr.run_fSv, Pyr.run_fSo, Pyr.run_fSe, Pyr.run_pur0, Pyr.run_frz0, Pyr.run_v0n, Pyr.run_v0b, Pyr.run_v0i, Pyr.run_v0s, Pyr.run_v0l, Pyr.run_v0t, Pyr.run_v0o, Pyr.run_vN, Pyr.run_vS, Pyr.run_bad, Pyr.run_exc, Pyr.run_map, Pyr.run_okL, List.length_cons, List.length_nil, Pyr.bind_ok, List.set_cons_zero, List.set_cons_succ, List.getElem?_cons_zero, List.getElem?_cons_succ, Pyr.eqD_int, Pyr.eqD_str, Pyr.neD_int, Pyr.neD_str, if_true, if_false, Bool.not_true, Bool.not_false, Bool.false_eq_true, decide_true, decide_false, Pyr.run_atT0, Pyr.run_atT1, Pyr.run_atT2, Pyr.run_atT3, Pyr.run_atT4, Pyr.run_atL0, Pyr.run_atL1, Pyr.run_atL2, Pyr.run_atL3, Pyr.run_atL4, Pyr.isi_str_n, Pyr.isi_str_b, Pyr.isi_str_i, Pyr.isi_str_s, Pyr.isi_str_l, Pyr.isi_str_t, Pyr.isi_str_d, Pyr.isi_int_n, Pyr.isi_int_b, Pyr.isi_int_i, Pyr.isi_int_s, Pyr.isi_int_l, Pyr.isi_int_t, Pyr.isi_int_d, Pyr.isi_bool_n, Pyr.isi_bool_b, Pyr.isi_bool_i, Pyr.isi_bool_s, Pyr.isi_bool_l, Pyr.isi_bool_t, Pyr.isi_bool_d, Pyr.isi_list_n, Pyr.isi_list_b, Pyr.isi_list_i, Pyr.isi_list_s, Pyr.isi_list_l, Pyr.isi_list_t, Pyr.isi_list_d, Pyr.isi_tuple_n, Pyr.isi_tuple_b, Pyr.isi_tuple_i, Pyr.isi_tuple_s, Pyr.isi_tuple_l, Pyr.isi_tuple_t, Pyr.isi_tuple_d, Pyr.isi_dict_n, Pyr.isi_dict_b, Pyr.isi_dict_i, Pyr.isi_dict_s, Pyr.isi_dict_l, Pyr.isi_dict_t, Pyr.isi_dict_d, Nat.reduceAdd, Int.cast_ofNat_Int, Int.natCast_zero, Int.natCast_one, Int.reduceEq, Int.reduceLT, Int.reduceLE, Int.reduceAdd, Int.reduceSub, Int.reduceMul, Int.reduceNeg, Int.reduceNe, Nat.zero_add, reduceIte, decide_eq_true_eq, beq_self_eq_true, eq_self, Bool.true_or, Bool.or_true, Bool.and_true, Bool.true_and, Bool.false_or, Bool.or_false, Bool.and_false, Bool.false_and]
    have a1 : (tNotR (tE truD (e1 (isiD "tuple") (Pyr.e2 atD (eVar 1) (eC (.int 1)))))) (frzE [.val (.list (fs.map ftD)), .val (ftD f), .emp]) = .ok false := by
      unfold ftD
      simp -implicitDefEqProofs (disch := omega) only [Pyr.run_flI, Pyr.run_flB, Pyr.run_flS, Pyr.run_flN, Pyr.sSeq, Pyr.sKill, Pyr.run_kill0, Pyr.run_killS, Pyr.sIf, Pyr.sSet, Pyr.sSetL, Pyr.sRet, Pyr.sRetL, Pyr.sRetN, Pyr.sRetO, Pyr.sDrop, Pyr.sApp, Pyr.sNext, Pyr.sFrz, Pyr.sSetT, Pyr.tgF, Pyr.setsF, Pyr.evP, Pyr.evL, Pyr.evT, Pyr.bare, Pyr.eC, Pyr.e1, Pyr.e2, Pyr.eN, Pyr.aC, Pyr.a0, Pyr.eIf, Pyr.eAnd, Pyr.eOr, Pyr.eNot, Pyr.eChain, Pyr.tE, Pyr.tNotR, Pyr.tAndR, Pyr.tOrR, Pyr.eCall, Pyr.lCall, Pyr.iF, Pyr.iF2, Pyr.lN, Pyr.lF, Pyr.eFs, Pyr.jC, Pyr.j0, Pyr.eIxV, Pyr.ownI, Pyr.lAdd, Pyr.sExt, Pyr.sPop, Pyr.trF, Pyr.trsF, Trs.len, Pyr.run_max2, Pyr.run_min2, Pyr.backD, Pyr.eSlice, Pyr.oNone, Pyr.oSome, Pyr.optI, Pyr.lSlice, Pyr.listD, eL, Pyr.eB, Pyr.oneD, Pyr.oneL, Pyr.itemsD, Pyr.outR, Pyr.ownD, Pyr.RV.d, Pyr.tupD, Pyr.run_mul, Pyr.run_mulS, Pyr.run_add, Pyr.run_sub, Pyr.run_addS, Pyr.run_mod, Pyr.run_fdiv, Pyr.run_lt, Pyr.run_le, Pyr.run_gt, Pyr.run_ge, Pyr.run_lenL, Pyr.run_lenT, Pyr.run_lenS, Pyr.run_int, Pyr.run_bool, Pyr.run_truB, Pyr.run_truL, Pyr.run_pur1, Pyr.run_frz1, Pyr.run_pSv, Pyr.run_pSo, Pyr.run_pSe, Pyr.run_fSv, Pyr.run_fSo, Pyr.run_fSe, Pyr.run_pur0, Pyr.run_frz0, Pyr.run_v0n, Pyr.run_v0b, Pyr.run_v0i, Pyr.run_v0s, Pyr.run_v0l, Pyr.run_v0t, Pyr.run_v0o, Pyr.run_vN, Pyr.run_vS, Pyr.run_bad, Pyr.run_exc, Pyr.run_map, Pyr.run_okL, List.length_cons, List.length_nil, Pyr.bind_ok, List.set_cons_zero, List.set_cons_succ, List.getElem?_cons_zero, List.getElem?_cons_succ, Pyr.eqD_int, Pyr.eqD_str, Pyr.neD_int, Pyr.neD_str, if_true, if_false, Bool.not_true, Bool.not_false, Bool.false_eq_true, decide_true, decide_false, Pyr.run_atT0, Pyr.run_atT1, Pyr.run_atT2, Pyr.run_atT3, Pyr.run_atT4, Pyr.run_atL0, Pyr.run_atL1, Pyr.run_atL2, Pyr.run_atL3, Pyr.run_atL4, Pyr.isi_str_n, Pyr.isi_str_b, Pyr.isi_str_i, Pyr.isi_str_s, Pyr.isi_str_l, Pyr.isi_str_t, Pyr.isi_str_d, Pyr.isi_int_n, Pyr.isi_int_b, Pyr.isi_int_i, Pyr.isi_int_s, Pyr.isi_int_l, Pyr.isi_int_t, Pyr.isi_int_d, Pyr.isi_bool_n, Pyr.isi_bool_b, Pyr.isi_bool_i, Pyr.isi_bool_s, Pyr.isi_bool_l, Pyr.isi_bool_t, Pyr.isi_bool_d, Pyr.isi_list_n, Pyr.isi_list_b, Pyr.isi_list_i, Pyr.isi_list_s, Pyr.isi_list_l, Pyr.isi_list_t, Pyr.isi_list_d, Pyr.isi_tuple_n, Pyr.isi_tuple_b, Pyr.isi_tuple_i, Pyr.isi_tuple_s, Pyr.isi_tuple_l, Pyr.isi_tuple_t, Pyr.isi_tuple_d, Pyr.isi_dict_n, Pyr.isi_dict_b, Pyr.isi_dict_i, Pyr.isi_dict_s, Pyr.isi_dict_l, Pyr.isi_dict_t, Pyr.isi_dict_d, Nat.reduceAdd, Int.cast_ofNat_Int, Int.natCast_zero, Int.natCast_one, Int.reduceEq, Int.reduceLT, Int.reduceLE, Int.reduceAdd, Int.reduceSub, Int.reduceMul, Int.reduceNeg, Int.reduceNe, Nat.zero_add, reduceIte, decide_eq_true_eq, beq_self_eq_true, eq_self, Bool.true_or, Bool.or_true, Bool.and_true, Bool.true_and, Bool.false_or, Bool.or_false, Bool.and_false, Bool.false_and]
    have a2 : (tNotR (tE truD (eN (oneD allD) (aC (eL (lComp [2] (Tg.nm 2) (iF walkD (Pyr.e2 atD (eVar 1) (eC (.int 1)))) tYesR (e1 (isiD "str") (eVar 2)))) Pyr.a0)))) (frzE [.val (.list (fs.map ftD)), .val (ftD f), .emp]) = .ok false := by
      unfold tNotR tE
      rw [ha]
      rfl
    have a3 : (tOrR (tNotR (tE truD (e1 (isiD "tuple") (Pyr.e2 atD (eVar 1) (eC (.int 1)))))) (tNotR (tE truD (eN (oneD allD) (aC (eL (lComp [2] (Tg.nm 2) (iF walkD (Pyr.e2 atD (eVar 1) (eC (.int 1)))) tYesR (e1 (isiD "str") (eVar 2)))) Pyr.a0))))) (frzE [.val (.list (fs.map ftD)), .val (ftD f), .emp]) = .ok false := by
      unfold tOrR
      rw [a1]
      exact a2
    show sSeq _ _ [.val (.list (fs.map ftD)), .val (ftD f), .emp] = _
    rw [seq_ok i1, seq_ok (ρ' := [.val (.list (fs.map ftD)), .val (ftD f), .emp]) (by rw [if_ok a3]; rfl)]
    rfl
  have hi : (iF walkD (eVar 0)) (purE [.val (.list (fs.map ftD)), .emp, .emp]) = .ok (fs.map ftD) := rfl
  rw [seq_ok (ρ' := [.val (.list (fs.map ftD)), .emp, .emp]) (by simp -implicitDefEqProofs (disch := omega) only [Pyr.run_flI, Pyr.run_flB, Pyr.run_flS, Pyr.run_flN, Pyr.sSeq, Pyr.sKill, Pyr.run_kill0, Pyr.run_killS, Pyr.sIf, Pyr.sSet, Pyr.sSetL, Pyr.sRet, Pyr.sRetL, Pyr.sRetN, Pyr.sRetO, Pyr.sDrop, Pyr.sApp, Pyr.sNext, Pyr.sFrz, Pyr.sSetT, Pyr.tgF, Pyr.setsF, Pyr.evP, Pyr.evL, Pyr.evT, Pyr.bare, Pyr.eC, Pyr.e1, Pyr.e2, Pyr.eN, Pyr.aC, Pyr.a0, Pyr.eIf, Pyr.eAnd, Pyr.eOr, Pyr.eNot, Pyr.eChain, Pyr.tE, Pyr.tNotR, Pyr.tAndR, Pyr.tOrR, Pyr.eCall, Pyr.lCall, Pyr.iF, Pyr.iF2, Pyr.lN, Pyr.lF, Pyr.eFs, Pyr.jC, Pyr.j0, Pyr.eIxV, Pyr.ownI, Pyr.lAdd, Pyr.sExt, Pyr.sPop, Pyr.trF, Pyr.trsF, Trs.len, Pyr.run_max2, Pyr.run_min2, Pyr.backD, Pyr.eSlice, Pyr.oNone, Pyr.oSome, Pyr.optI, Pyr.lSlice, Pyr.listD, eL, Pyr.eB, Pyr.oneD, Pyr.oneL, Pyr.itemsD, Pyr.outR, Pyr.ownD, Pyr.RV.d, Pyr.tupD, Pyr.run_mul, Pyr.run_mulS, Pyr.run_add, Pyr.run_sub, Pyr.run_addS, Pyr.run_mod, Pyr.run_fdiv, Pyr.run_lt, Pyr.run_le, Pyr.run_gt, Pyr.run_ge, Pyr.run_lenL, Pyr.run_lenT, Pyr.run_lenS, Pyr.run_int, Pyr.run_bool, Pyr.run_truB, Pyr.run_truL, Pyr.run_pur1, Pyr.run_frz1, Pyr.run_pSv, Pyr.run_pSo, Pyr.run_pSe, Pyr.run_fSv, Pyr.run_fSo, Pyr.run_fSe, Pyr.run_pur0, Pyr.run_frz0, Pyr.run_v0n, Pyr.run_v0b, Pyr.run_v0i, Pyr.run_v0s, Pyr.run_v0l, Pyr.run_v0t, Pyr.run_v0o, Pyr.run_vN, Pyr.run_vS, Pyr.run_bad, Pyr.run_exc, Pyr.run_map, Pyr.run_okL, List.length_cons, List.length_nil, Pyr.bind_ok, List.set_cons_zero, List.set_cons_succ, List.getElem?_cons_zero, List.getElem?_cons_succ, Pyr.eqD_int, Pyr.eqD_str, Pyr.neD_int, Pyr.neD_str, if_true, if_false, Bool.not_true, Bool.not_false, Bool.false_eq_true, decide_true, decide_false, Pyr.run_atT0, Pyr.run_atT1, Pyr.run_atT2, Pyr.run_atT3, Pyr.run_atT4, Pyr.run_atL0, Pyr.run_atL1, Pyr.run_atL2, Pyr.run_atL3, Pyr.run_atL4, Pyr.isi_str_n, Pyr.isi_str_b, Pyr.isi_str_i, Pyr.isi_str_s, Pyr.isi_str_l, Pyr.isi_str_t, Pyr.isi_str_d, Pyr.isi_int_n, Pyr.isi_int_b, Pyr.isi_int_i, Pyr.isi_int_s, Pyr.isi_int_l, Pyr.isi_int_t, Pyr.isi_int_d, Pyr.isi_bool_n, Pyr.isi_bool_b, Pyr.isi_bool_i, Pyr.isi_bool_s, Pyr.isi_bool_l, Pyr.isi_bool_t, Pyr.isi_bool_d, Pyr.isi_list_n, Pyr.isi_list_b, Pyr.isi_list_i, Pyr.isi_list_s, Pyr.isi_list_l, Pyr.isi_list_t, Pyr.isi_list_d, Pyr.isi_tuple_n, Pyr.isi_tuple_b, Pyr.isi_tuple_i, Pyr.isi_tuple_s, Pyr.isi_tuple_l, Pyr.isi_tuple_t, Pyr.isi_tuple_d, Pyr.isi_dict_n, Pyr.isi_dict_b, Pyr.isi_dict_i, Pyr.isi_dict_s, Pyr.isi_dict_l, Pyr.isi_dict_t, Pyr.isi_dict_d, Nat.reduceAdd, Int.cast_ofNat_Int, Int.natCast_zero, Int.natCast_one, Int.reduceEq, Int.reduceLT, Int.reduceLE, Int.reduceAdd, Int.reduceSub, Int.reduceMul, Int.reduceNeg, Int.reduceNe, Nat.zero_add, reduceIte, decide_eq_true_eq, beq_self_eq_true, eq_self, Bool.true_or, Bool.or_true, Bool.and_true, Bool.true_and, Bool.false_or, Bool.or_false, Bool.and_false, Bool.false_and])]
  show outR (sSeq _ _ [.val (.list (fs.map ftD)), .emp, .emp]) = _
  rw [seq_ok ((for_ok hi).trans e)]
  rfl
theorem ft_f {f : Ft} (h : FtOk f) (n : Nat) : fD (n + 2) (ftD f) = true := by
  show (fD (n + 1) (.str f.1) && (fD (n + 1) (.tuple (f.2.map .str)) && true)) = true
  rw [wd_f h.1, rows_f h.2]
  rfl
def lfD (fs : List Ft) : Pyr.D := .list (fs.map ftD)
def LfOk (fs : List Ft) : Prop := ∀ f ∈ fs, FtOk f
theorem lf_f {fs : List Ft} (h : LfOk fs) (n : Nat) : fD (n + 3) (lfD fs) = true := by
  show fDs (n + 2) (fs.map ftD) = true
  refine fDs_all fun d hd => ?_
  obtain ⟨f, hf, rfl⟩ := List.mem_map.mp hd
  exact ft_f (h f hf) n
theorem lfE : Enc lfD LfOk where
  inj := fun x y h => ftE.mapInj (by unfold lfD at h; injection h)
  nb := fun x => by
    show noBs (x.map ftD) = true
    refine noBs_all fun d hd => ?_
    obtain ⟨f, _, rfl⟩ := List.mem_map.mp hd
    exact ftE.nb f
  fd := fun x h => lf_f h 47
/-- a change -/
def chD (c : List Ft × List Ft) : Pyr.D := .tuple [lfD c.1, lfD c.2]
def ChOk (c : List Ft × List Ft) : Prop := LfOk c.1 ∧ LfOk c.2
theorem chE : Enc chD ChOk where
  inj := fun x y h => by
    unfold chD at h
    injection h with h
    injection h with h1 h
    injection h with h2 _
    exact Prod.ext (lfE.inj _ _ h1) (lfE.inj _ _ h2)
  nb := fun x => by
    show (noB (lfD x.1) && (noB (lfD x.2) && true)) = true
    rw [lfE.nb, lfE.nb]
    rfl
  fd := fun x h => by
    show (fD 49 (lfD x.1) && (fD 49 (lfD x.2) && true)) = true
    rw [lf_f h.1 46, lf_f h.2 46]
    rfl
theorem ischange_run (c : List Ft × List Ft) (h1 : c.1.length ≤ 10000) (h2 : c.2.length ≤ 10000) (r1 : ∀ f ∈ c.1, f.2.length ≤ 1000) (r2 : ∀ f ∈ c.2, f.2.length ≤ 1000) : m__law_is_change [chD c] = .ok (.val (.bool true)) := by
  rw [u__law_is_change]
  rw [defM_eq (np := 1) rfl]
  show outR (F__law_is_change [.val (chD c)]) = _
  have a := isfacts_run c.1 h1 r1
  have b := isfacts_run c.2 h2 r2
  unfold F__law_is_change chD lfD
  simp -implicitDefEqProofs (disch := omega) only [Pyr.run_flI, Pyr.run_flB, Pyr.run_flS, Pyr.run_flN, Pyr.sSeq, Pyr.sKill, Pyr.run_kill0, Pyr.run_killS, Pyr.sIf, Pyr.sSet, Pyr.sSetL, Pyr.sRet, Pyr.sRetL, Pyr.sRetN, Pyr.sRetO, Pyr.sDrop, Pyr.sApp, Pyr.sNext, Pyr.sFrz, Pyr.sSetT, Pyr.tgF, Pyr.setsF, Pyr.evP, Pyr.evL, Pyr.evT, Pyr.bare, Pyr.eC, Pyr.e1, Pyr.e2, Pyr.eN, Pyr.aC, Pyr.a0, Pyr.eIf, Pyr.eAnd, Pyr.eOr, Pyr.eNot, Pyr.eChain, Pyr.tE, Pyr.tNotR, Pyr.tAndR, Pyr.tOrR, Pyr.eCall, Pyr.lCall, Pyr.iF, Pyr.iF2, Pyr.lN, Pyr.lF, Pyr.eFs, Pyr.jC, Pyr.j0, Pyr.eIxV, Pyr.ownI, Pyr.lAdd, Pyr.sExt, Pyr.sPop, Pyr.trF, Pyr.trsF, Trs.len, Pyr.run_max2, Pyr.run_min2, Pyr.backD, Pyr.eSlice, Pyr.oNone, Pyr.oSome, Pyr.optI, Pyr.lSlice, Pyr.listD, eL, Pyr.eB, Pyr.oneD, Pyr.oneL, Pyr.itemsD, Pyr.outR, Pyr.ownD, Pyr.RV.d, Pyr.tupD, Pyr.run_mul, Pyr.run_mulS, Pyr.run_add, Pyr.run_sub, Pyr.run_addS, Pyr.run_mod, Pyr.run_fdiv, Pyr.run_lt, Pyr.run_le, Pyr.run_gt, Pyr.run_ge, Pyr.run_lenL, Pyr.run_lenT, Pyr.run_lenS, Pyr.run_int, Pyr.run_bool, Pyr.run_truB, Pyr.run_truL, Pyr.run_pur1, Pyr.run_frz1, Pyr.run_pSv, Pyr.run_pSo, Pyr.run_pSe, Pyr.run_fSv, Pyr.run_fSo, Pyr.run_fSe, Pyr.run_pur0, Pyr.run_frz0, Pyr.run_v0n, Pyr.run_v0b, Pyr.run_v0i, Pyr.run_v0s, Pyr.run_v0l, Pyr.run_v0t, Pyr.run_v0o, Pyr.run_vN, Pyr.run_vS, Pyr.run_bad, Pyr.run_exc, Pyr.run_map, Pyr.run_okL, List.length_cons, List.length_nil, Pyr.bind_ok, List.set_cons_zero, List.set_cons_succ, List.getElem?_cons_zero, List.getElem?_cons_succ, Pyr.eqD_int, Pyr.eqD_str, Pyr.neD_int, Pyr.neD_str, if_true, if_false, Bool.not_true, Bool.not_false, Bool.false_eq_true, decide_true, decide_false, Pyr.run_atT0, Pyr.run_atT1, Pyr.run_atT2, Pyr.run_atT3, Pyr.run_atT4, Pyr.run_atL0, Pyr.run_atL1, Pyr.run_atL2, Pyr.run_atL3, Pyr.run_atL4, Pyr.isi_str_n, Pyr.isi_str_b, Pyr.isi_str_i, Pyr.isi_str_s, Pyr.isi_str_l, Pyr.isi_str_t, Pyr.isi_str_d, Pyr.isi_int_n, Pyr.isi_int_b, Pyr.isi_int_i, Pyr.isi_int_s, Pyr.isi_int_l, Pyr.isi_int_t, Pyr.isi_int_d, Pyr.isi_bool_n, Pyr.isi_bool_b, Pyr.isi_bool_i, Pyr.isi_bool_s, Pyr.isi_bool_l, Pyr.isi_bool_t, Pyr.isi_bool_d, Pyr.isi_list_n, Pyr.isi_list_b, Pyr.isi_list_i, Pyr.isi_list_s, Pyr.isi_list_l, Pyr.isi_list_t, Pyr.isi_list_d, Pyr.isi_tuple_n, Pyr.isi_tuple_b, Pyr.isi_tuple_i, Pyr.isi_tuple_s, Pyr.isi_tuple_l, Pyr.isi_tuple_t, Pyr.isi_tuple_d, Pyr.isi_dict_n, Pyr.isi_dict_b, Pyr.isi_dict_i, Pyr.isi_dict_s, Pyr.isi_dict_l, Pyr.isi_dict_t, Pyr.isi_dict_d, Nat.reduceAdd, Int.cast_ofNat_Int, Int.natCast_zero, Int.natCast_one, Int.reduceEq, Int.reduceLT, Int.reduceLE, Int.reduceAdd, Int.reduceSub, Int.reduceMul, Int.reduceNeg, Int.reduceNe, Nat.zero_add, reduceIte, decide_eq_true_eq, beq_self_eq_true, eq_self, Bool.true_or, Bool.or_true, Bool.and_true, Bool.true_and, Bool.false_or, Bool.or_false, Bool.and_false, Bool.false_and, a, b]
theorem between_run (xs ys : List Ft) (hx : LfOk xs) (hy : LfOk ys) (lx : xs.length ≤ 10000) (ly : ys.length ≤ 10000) : m__law_between [.list (xs.map ftD), .list (ys.map ftD)] = .ok (.val (chD (minusF xs ys, minusF ys xs))) := by
  rw [u__law_between]
  rw [defM_eq (np := 2) rfl]
  show outR (F__law_between [.val (.list (xs.map ftD)), .val (.list (ys.map ftD)), .emp]) = _
  unfold F__law_between
  have c1 : (lComp [2] (Tg.nm 2) (iF walkD (eVar 0)) (tE boolD (Pyr.e2 notInD (eVar 2) (eVar 1))) (eVar 2)) (purE [.val (.list (xs.map ftD)), .val (.list (ys.map ftD)), .emp]) = .ok ((minusF xs ys).map ftD) := by
    refine lComp_ok (ds := xs.map ftD) rfl (by rw [List.length_map]; omega) (compF_some _ _ _ xs fun f hf => ⟨_, rfl, ?_, fun _ => rfl⟩)
    have ni := ftE.notInD (xs := ys) (y := f) hy (hx f hf)
    simp -implicitDefEqProofs (disch := omega) only [Pyr.run_flI, Pyr.run_flB, Pyr.run_flS, Pyr.run_flN, Pyr.sSeq, Pyr.sKill, Pyr.run_kill0, Pyr.run_killS, Pyr.sIf, Pyr.sSet, Pyr.sSetL, Pyr.sRet, Pyr.sRetL, Pyr.sRetN, Pyr.sRetO, Pyr.sDrop, Pyr.sApp, Pyr.sNext, Pyr.sFrz, Pyr.sSetT, Pyr.tgF, Pyr.setsF, Pyr.evP, Pyr.evL, Pyr.evT, Pyr.bare, Pyr.eC, Pyr.e1, Pyr.e2, Pyr.eN, Pyr.aC, Pyr.a0, Pyr.eIf, Pyr.eAnd, Pyr.eOr, Pyr.eNot, Pyr.eChain, Pyr.tE, Pyr.tNotR, Pyr.tAndR, Pyr.tOrR, Pyr.eCall, Pyr.lCall, Pyr.iF, Pyr.iF2, Pyr.lN, Pyr.lF, Pyr.eFs, Pyr.jC, Pyr.j0, Pyr.eIxV, Pyr.ownI, Pyr.lAdd, Pyr.sExt, Pyr.sPop, Pyr.trF, Pyr.trsF, Trs.len, Pyr.run_max2, Pyr.run_min2, Pyr.backD, Pyr.eSlice, Pyr.oNone, Pyr.oSome, Pyr.optI, Pyr.lSlice, Pyr.listD, eL, Pyr.eB, Pyr.oneD, Pyr.oneL, Pyr.itemsD, Pyr.outR, Pyr.ownD, Pyr.RV.d, Pyr.tupD, Pyr.run_mul, Pyr.run_mulS, Pyr.run_add, Pyr.run_sub, Pyr.run_addS, Pyr.run_mod, Pyr.run_fdiv, Pyr.run_lt, Pyr.run_le, Pyr.run_gt, Pyr.run_ge, Pyr.run_lenL, Pyr.run_lenT, Pyr.run_lenS, Pyr.run_int, Pyr.run_bool, Pyr.run_truB, Pyr.run_truL, Pyr.run_pur1, Pyr.run_frz1, Pyr.run_pSv, Pyr.run_pSo, Pyr.run_pSe, Pyr.run_fSv, Pyr.run_fSo, Pyr.run_fSe, Pyr.run_pur0, Pyr.run_frz0, Pyr.run_v0n, Pyr.run_v0b, Pyr.run_v0i, Pyr.run_v0s, Pyr.run_v0l, Pyr.run_v0t, Pyr.run_v0o, Pyr.run_vN, Pyr.run_vS, Pyr.run_bad, Pyr.run_exc, Pyr.run_map, Pyr.run_okL, List.length_cons, List.length_nil, Pyr.bind_ok, List.set_cons_zero, List.set_cons_succ, List.getElem?_cons_zero, List.getElem?_cons_succ, Pyr.eqD_int, Pyr.eqD_str, Pyr.neD_int, Pyr.neD_str, if_true, if_false, Bool.not_true, Bool.not_false, Bool.false_eq_true, decide_true, decide_false, Pyr.run_atT0, Pyr.run_atT1, Pyr.run_atT2, Pyr.run_atT3, Pyr.run_atT4, Pyr.run_atL0, Pyr.run_atL1, Pyr.run_atL2, Pyr.run_atL3, Pyr.run_atL4, Pyr.isi_str_n, Pyr.isi_str_b, Pyr.isi_str_i, Pyr.isi_str_s, Pyr.isi_str_l, Pyr.isi_str_t, Pyr.isi_str_d, Pyr.isi_int_n, Pyr.isi_int_b, Pyr.isi_int_i, Pyr.isi_int_s, Pyr.isi_int_l, Pyr.isi_int_t, Pyr.isi_int_d, Pyr.isi_bool_n, Pyr.isi_bool_b, Pyr.isi_bool_i, Pyr.isi_bool_s, Pyr.isi_bool_l, Pyr.isi_bool_t, Pyr.isi_bool_d, Pyr.isi_list_n, Pyr.isi_list_b, Pyr.isi_list_i, Pyr.isi_list_s, Pyr.isi_list_l, Pyr.isi_list_t, Pyr.isi_list_d, Pyr.isi_tuple_n, Pyr.isi_tuple_b, Pyr.isi_tuple_i, Pyr.isi_tuple_s, Pyr.isi_tuple_l, Pyr.isi_tuple_t, Pyr.isi_tuple_d, Pyr.isi_dict_n, Pyr.isi_dict_b, Pyr.isi_dict_i, Pyr.isi_dict_s, Pyr.isi_dict_l, Pyr.isi_dict_t, Pyr.isi_dict_d, Nat.reduceAdd, Int.cast_ofNat_Int, Int.natCast_zero, Int.natCast_one, Int.reduceEq, Int.reduceLT, Int.reduceLE, Int.reduceAdd, Int.reduceSub, Int.reduceMul, Int.reduceNeg, Int.reduceNe, Nat.zero_add, reduceIte, decide_eq_true_eq, beq_self_eq_true, eq_self, Bool.true_or, Bool.or_true, Bool.and_true, Bool.true_and, Bool.false_or, Bool.or_false, Bool.and_false, Bool.false_and, wipeE, tgE, v0_ft, ni]
  have c2 : (lComp [2] (Tg.nm 2) (iF walkD (eVar 1)) (tE boolD (Pyr.e2 notInD (eVar 2) (eVar 0))) (eVar 2)) (purE [.val (.list (xs.map ftD)), .val (.list (ys.map ftD)), .emp]) = .ok ((minusF ys xs).map ftD) := by
    refine lComp_ok (ds := ys.map ftD) rfl (by rw [List.length_map]; omega) (compF_some _ _ _ ys fun f hf => ⟨_, rfl, ?_, fun _ => rfl⟩)
    have ni := ftE.notInD (xs := xs) (y := f) hx (hy f hf)
    simp -implicitDefEqProofs (disch := omega) only [Pyr.run_flI, Pyr.run_flB, Pyr.run_flS, Pyr.run_flN, Pyr.sSeq, Pyr.sKill, Pyr.run_kill0, Pyr.run_killS, Pyr.sIf, Pyr.sSet, Pyr.sSetL, Pyr.sRet, Pyr.sRetL, Pyr.sRetN, Pyr.sRetO, Pyr.sDrop, Pyr.sApp, Pyr.sNext, Pyr.sFrz, Pyr.sSetT, Pyr.tgF, Pyr.setsF, Pyr.evP, Pyr.evL, Pyr.evT, Pyr.bare, Pyr.eC, Pyr.e1, Pyr.e2, Pyr.eN, Pyr.aC, Pyr.a0, Pyr.eIf, Pyr.eAnd, Pyr.eOr, Pyr.eNot, Pyr.eChain, Pyr.tE, Pyr.tNotR, Pyr.tAndR, Pyr.tOrR, Pyr.eCall, Pyr.lCall, Pyr.iF, Pyr.iF2, Pyr.lN, Pyr.lF, Pyr.eFs, Pyr.jC, Pyr.j0, Pyr.eIxV, Pyr.ownI, Pyr.lAdd, Pyr.sExt, Pyr.sPop, Pyr.trF, Pyr.trsF, Trs.len, Pyr.run_max2, Pyr.run_min2, Pyr.backD, Pyr.eSlice, Pyr.oNone, Pyr.oSome, Pyr.optI, Pyr.lSlice, Pyr.listD, eL, Pyr.eB, Pyr.oneD, Pyr.oneL, Pyr.itemsD, Pyr.outR, Pyr.ownD, Pyr.RV.d, Pyr.tupD, Pyr.run_mul, Pyr.run_mulS, Pyr.run_add, Pyr.run_sub, Pyr.run_addS, Pyr.run_mod, Pyr.run_fdiv, Pyr.run_lt, Pyr.run_le, Pyr.run_gt, Pyr.run_ge, Pyr.run_lenL, Pyr.run_lenT, Pyr.run_lenS, Pyr.run_int, Pyr.run_bool, Pyr.run_truB, Pyr.run_truL, Pyr.run_pur1, Pyr.run_frz1, Pyr.run_pSv, Pyr.run_pSo, Pyr.run_pSe, Pyr.run_fSv, Pyr.run_fSo, Pyr.run_fSe, Pyr.run_pur0, Pyr.run_frz0, Pyr.run_v0n, Pyr.run_v0b, Pyr.run_v0i, Pyr.run_v0s, Pyr.run_v0l, Pyr.run_v0t, Pyr.run_v0o, Pyr.run_vN, Pyr.run_vS, Pyr.run_bad, Pyr.run_exc, Pyr.run_map, Pyr.run_okL, List.length_cons, List.length_nil, Pyr.bind_ok, List.set_cons_zero, List.set_cons_succ, List.getElem?_cons_zero, List.getElem?_cons_succ, Pyr.eqD_int, Pyr.eqD_str, Pyr.neD_int, Pyr.neD_str, if_true, if_false, Bool.not_true, Bool.not_false, Bool.false_eq_true, decide_true, decide_false, Pyr.run_atT0, Pyr.run_atT1, Pyr.run_atT2, Pyr.run_atT3, Pyr.run_atT4, Pyr.run_atL0, Pyr.run_atL1, Pyr.run_atL2, Pyr.run_atL3, Pyr.run_atL4, Pyr.isi_str_n, Pyr.isi_str_b, Pyr.isi_str_i, Pyr.isi_str_s, Pyr.isi_str_l, Pyr.isi_str_t, Pyr.isi_str_d, Pyr.isi_int_n, Pyr.isi_int_b, Pyr.isi_int_i, Pyr.isi_int_s, Pyr.isi_int_l, Pyr.isi_int_t, Pyr.isi_int_d, Pyr.isi_bool_n, Pyr.isi_bool_b, Pyr.isi_bool_i, Pyr.isi_bool_s, Pyr.isi_bool_l, Pyr.isi_bool_t, Pyr.isi_bool_d, Pyr.isi_list_n, Pyr.isi_list_b, Pyr.isi_list_i, Pyr.isi_list_s, Pyr.isi_list_l, Pyr.isi_list_t, Pyr.isi_list_d, Pyr.isi_tuple_n, Pyr.isi_tuple_b, Pyr.isi_tuple_i, Pyr.isi_tuple_s, Pyr.isi_tuple_l, Pyr.isi_tuple_t, Pyr.isi_tuple_d, Pyr.isi_dict_n, Pyr.isi_dict_b, Pyr.isi_dict_i, Pyr.isi_dict_s, Pyr.isi_dict_l, Pyr.isi_dict_t, Pyr.isi_dict_d, Nat.reduceAdd, Int.cast_ofNat_Int, Int.natCast_zero, Int.natCast_one, Int.reduceEq, Int.reduceLT, Int.reduceLE, Int.reduceAdd, Int.reduceSub, Int.reduceMul, Int.reduceNeg, Int.reduceNe, Nat.zero_add, reduceIte, decide_eq_true_eq, beq_self_eq_true, eq_self, Bool.true_or, Bool.or_true, Bool.and_true, Bool.true_and, Bool.false_or, Bool.or_false, Bool.and_false, Bool.false_and, wipeE, tgE, v0_ft, ni]
  rw [ret_ok (d := chD (minusF xs ys, minusF ys xs))]
  · rfl
  · exact (eN_ok (aC_ok (mapL_ok c1) (aC_ok (mapL_ok c2) rfl))).trans rfl
end
end Com2

set_option Elab.async false
set_option autoImplicit false
set_option linter.all false
set_option maxRecDepth 100000
set_option maxHeartbeats 4000000
/-! a, b, c = a list -/
namespace Pyr
open PySem PySem.Spec PyProof.Rows L2 Evl
def sSetU (is : List Nat) (fe : En → Res D) : Frm → Res Fl := fun ρ => (evP fe ρ).bind fun d => match d with
  | .list ds => if ds.length = is.length then .ok (.next (setsF is ds ρ)) else .bad
  | _ => .bad
theorem ds_setU {TS : TabList} {X : Cx} {e tg : Expr} {fe : En → Res D} {pos : Pos} {is : List Nat} (he : DE TS X e fe) (hg : PG X tg (gUnl X.K is.length (gMany is))) (hs : swapsWithSole [tg] e pos.line X.env = pure false := by rfl) (hw : swappedStores [tg] e X.env = pure none := by rfl)
    (h1 : (assignEach [tg] X.env).map (·.2) = [assign tg X.env] := by rfl) : DSt TS X (.Assign [tg] e pos) (sSetU is fe) := by
  refine ⟨?_⟩
  intro W ρ σ G_0 H_0 G H fp D tk s p
  refine wpSt_of (ps_asg (pe_wp X e) hg hs hw h1) ?_
  refine evP_run he tk s p fun v d G1 H1 g r p => ?_
  cases d with
  | list ds =>
    have p : PostS TS X W G_0 H_0 G D (if ds.length = is.length then .ok (.next (setsF is ds ρ)) else .bad) := p
    obtain ⟨q, vs, rfl, hq, rs⟩ := r.list_inv
    split at p
    · rename_i hl
      exact ⟨q, vs, rfl, ex_l g.ok.le hq, by rw [rs.len, hl], gManyF_ok is ds vs ρ σ hl rs (s.grow g) fun σ' s' => p σ' G1 H1 fp g.g s'⟩
    · exact p.elim
  | _ => exact p.elim
theorem setU_ok {is : List Nat} {fe : En → Res D} {ρ : Frm} {ds : List D} (h : fe (purE ρ) = .ok (.list ds)) (hl : ds.length = is.length) : sSetU is fe ρ = .ok (.next (setsF is ds ρ)) := by
  unfold sSetU
  rw [evP_ok h]
  show (if ds.length = is.length then Res.ok (Fl.next (setsF is ds ρ)) else .bad) = _
  rw [if_pos hl]
end Pyr

set_option Elab.async false
set_option autoImplicit false
set_option linter.all false
set_option maxRecDepth 100000
set_option maxHeartbeats 4000000
/-! sets of numbers and texts that are filled and walked -/
namespace Pyr
open PySem PySem.Spec PyProof.Rows L2 Evl
/-- the key of an entry -/
def entK (e : Int × Value) : Option Key := match e.2 with
  | .int i _ => some (.inl i)
  | .str x _ => some (.inr x)
  | _ => none
theorem entK_is {P : Program} {w : World} (e : Int × Value) (k : Key) : (mixKind P w).is k e.2 = true ↔ entK e = some k := by
  constructor
  · intro h
    rcases keyIs_shape h with ⟨i, t, rfl, e2⟩ | ⟨x, t, rfl, e2⟩ <;> (unfold entK; rw [e2])
  · intro h
    unfold entK at h
    split at h
    · rename_i i t e2
      cases h
      rw [e2]
      exact mixKind_int P w i t
    · rename_i x t e2
      cases h
      rw [e2]
      exact mixKind_str P w x t
    · cases h
/-- the table at a holds the keys L, each once -/
structure ScR (P : Program) (w : World) (h : Heap) (a : Addr) (L : List Key) (es : Array (Int × Value)) (ep : Nat) (t : SetTable) : Prop where
  here : ∃ o, h.get? a = some o ∧ o.ExactSet ∧ o.data = .set es ep t
  cont : es.toList.map entK = L.map some
  hsh : ∀ e ∈ es.toList, ∀ k, entK e = some k → e.1 = (mixKind P w).hash k
  once : L.Nodup
  fit : t.fits es.size = true
  few : L.length < 4000
  ris : Ris t.place.toList
  made : w.params.followText "set-order" = true ∨ t.led = true
structure ScS (P : Program) (w : World) (h : Heap) (a : Addr) (ks : List Key) : Prop where
  ex : ∃ L es ep t, ScR P w h a L es ep t ∧ ∀ k, k ∈ L ↔ k ∈ ks
section
variable {P : Program} {w : World} {h h' : Heap} {a : Addr} {ks L : List Key} {es : Array (Int × Value)} {ep : Nat} {t : SetTable}
theorem ScS.keep (x : ScS P w h a ks) (k : ∀ o, h.get? a = some o → h'.get? a = some o) : ScS P w h' a ks := by
  obtain ⟨L, es, ep, t, R, m⟩ := x.ex
  obtain ⟨o, ho, q⟩ := R.here
  exact ⟨L, es, ep, t, ⟨⟨o, k o ho, q⟩, R.cont, R.hsh, R.once, R.fit, R.few, R.ris, R.made⟩, m⟩
theorem ent_mem (hc : es.toList.map entK = L.map some) (k : Key) : k ∈ L ↔ ∃ e ∈ es.toList, entK e = some k := by
  have : some k ∈ L.map some ↔ k ∈ L := by simp
  rw [← this, ← hc, List.mem_map]
theorem ent_some (hc : es.toList.map entK = L.map some) : ∀ e ∈ es.toList, ∃ k, entK e = some k := fun e he => by
  have : entK e ∈ es.toList.map entK := List.mem_map.mpr ⟨e, he, rfl⟩
  rw [hc] at this
  obtain ⟨k, _, e2⟩ := List.mem_map.mp this
  exact ⟨k, e2.symm⟩
theorem ent_elems (hc : es.toList.map entK = L.map some) (hh : ∀ e ∈ es.toList, ∀ k, entK e = some k → e.1 = (mixKind P w).hash k) : ElemsOf (mixKind P w) es.toList := fun e he => by
  obtain ⟨k, hk⟩ := ent_some hc e he
  refine ⟨⟨k, (entK_is e k).mpr hk, hh e he k hk⟩, ?_⟩
  unfold entK at hk
  split at hk
  · rename_i e2; rw [e2]; rfl
  · rename_i e2; rw [e2]; rfl
  · cases hk
theorem ent_size (hc : es.toList.map entK = L.map some) : es.size = L.length := by
  have := congrArg List.length hc
  rwa [List.length_map, List.length_map, Array.length_toList] at this
theorem scS_fresh (w : World) (h : Heap) : ScS P w (h.push { cls := .type "set", dict := none, data := .set #[] 0 (.fresh 0 0 (!w.params.followText "set-order")) }) h.objs.size [] := by
  refine ⟨[], #[], 0, _, ⟨⟨_, Heap.get?_push_size _ rfl, ⟨rfl, rfl, rfl⟩, rfl⟩, rfl, fun e he => (by simp at he), List.nodup_nil, by rfl, by decide, List.Pairwise.nil, ?_⟩, fun k => Iff.rfl⟩
  show _ ∨ (!w.params.followText "set-order") = true
  cases w.params.followText "set-order"
  · exact .inr rfl
  · exact .inl rfl
def scO (P : Program) (w : World) (a : Addr) (ks : List Key) : HO := .ext fun h => ScS P w h a ks
theorem scO_ok {H : Hp} (x : ScS P w h a ks) : ObjOk P w H h a (scO P w a ks) := by
  obtain ⟨L, es, ep, t, R, _⟩ := id x.ex
  obtain ⟨o, ho, _⟩ := R.here
  exact ⟨x, ⟨o, ho⟩, fun h1 h2 z k => ScS.keep z k⟩
variable {A : Around} {E : Value → Shared → Prop} {s : Shared}
/-- stored, and laid anew where it is too full -/
theorem sc_store {o : Obj} (ho : s.heap.get? a = some o) (hex : o.ExactSet) (hd : o.data = .set es ep t) {es1 : Array (Int × Value)} {t1 : SetTable} (hc : es1.toList.map entK = L.map some) (hh : ∀ e ∈ es1.toList, ∀ k, entK e = some k → e.1 = (mixKind P w).hash k) (once : L.Nodup) (few : L.length < 4000)
    (fit : t1.fits es1.size = true) (ris : Ris t1.place.toList) (made : w.params.followText "set-order" = true ∨ t1.led = true) {g : Bool → Sem Unit} (hg : ∀ (b : Bool) (u : Shared) (Q' : Unit → Shared → Prop), Q' () u → wpAny (model P w) A (g b) Q' E u) {dummy : Bool} {Q : Option Bool → Shared → Prop}
    (q : ∀ g' es2 ep2 t2 L2, Heap.SameBut a s.heap g' → ScR P w g' a L2 es2 ep2 t2 → L2.Perm L → Q (some true) { s with heap := g' }) :
    wpAny (model P w) A (do
      storeSet a es1 t1
      if (!dummy && t1.tooFull) = true then do
          g (relayAll t1 es1 (SetTable.grown es1.size)).2.2
          storeSet a (relayAll t1 es1 (SetTable.grown es1.size)).1 (relayAll t1 es1 (SetTable.grown es1.size)).2.1
          pure (some true)
        else pure (some true)) Q E s := by
  have sz := ent_size hc
  refine wpAny_bind (wpAny_storeSet_of ho hd ?_ (by rw [sz, sizeLine_eq]; omega))
  have ho1 := store_at (es' := es1) (t' := t1) ho hd
  have sb1 := Heap.SameBut.update s.heap a (Obj.putSet es1 t1)
  split
  · have pm := relayAll_perm t1 es1 (SetTable.grown es1.size)
    have f2 := relayAll_fits t1 es1 (SetTable.grown es1.size)
    have r2 := relayAll_ris t1 es1 (SetTable.grown es1.size)
    have l2 := relayAll_led t1 es1 (SetTable.grown es1.size)
    generalize relayAll t1 es1 (SetTable.grown es1.size) = Z at pm f2 r2 l2 ⊢
    obtain ⟨es2, t2, gave⟩ := Z
    dsimp only at pm f2 r2 l2 ⊢
    obtain ⟨L2, pL, hc2⟩ := perm_map (some : Key → Option Key) ((pm.map entK).trans (by rw [hc])) L rfl
    have sz2 : es2.size = L.length := by rw [ent_size hc2, pL.length_eq]
    refine wpAny_bind (hg _ _ _ ?_)
    refine wpAny_bind (wpAny_storeSet_of ho1 rfl ?_ (by rw [sz2, sizeLine_eq]; omega))
    have ho2 := store_at (es' := es2) (t' := t2) ho1 rfl
    exact wpAny_pure (q _ es2 _ t2 L2 (sb1.trans (Heap.SameBut.update _ a _)) ⟨⟨_, ho2, ⟨hex.1, hex.2.1, hex.2.2⟩, rfl⟩, hc2, fun e he => hh e (pm.mem_iff.mp he), pL.nodup_iff.mpr once, f2, by rw [pL.length_eq]; exact few, r2, by rw [l2]; exact made⟩ pL)
  · exact wpAny_pure (q _ es1 _ t1 L sb1 ⟨⟨_, ho1, ⟨hex.1, hex.2.1, hex.2.2⟩, rfl⟩, hc, hh, once, fit, few, ris, made⟩ (List.Perm.refl _))
theorem sc_put {u : Value} {k : Key} {Q : Bool → Shared → Prop} (R : ScR P w s.heap a L es ep t) (ru : RelV (kV k) u) (room : L.length + 1 < 4000)
    (q : ∀ b g es2 ep2 t2 L2, Heap.SameBut a s.heap g → ScR P w g a L2 es2 ep2 t2 → (∀ j, j ∈ L2 ↔ j ∈ L ∨ j = k) → Q b { s with heap := g }) : wpAny (model P w) A (setAddHashed a u ((mixKind P w).hash k)) Q E s := by
  obtain ⟨o, ho, hex, hd⟩ := R.here
  have key : (mixKind P w).is k u = true := kV_is ru
  have scn : u.scannable = true := key_scan ru
  have el := ent_elems R.cont R.hsh
  have sz := ent_size R.cont
  have sb : scanBound = 4096 := rfl
  unfold setAddHashed setAddHashedIn
  refine wpAny_holding (wpAny_bind (wpAny_setState_of ho hd R.fit ?_))
  dsimp only
  rw [byScan_of scn (by rw [sz]; omega) el]
  simp only [↓reduceIte]
  unfold setAddByScan
  refine wpAny_bind ?_
  refine wpAny_bind (wpAny_rule ?_)
  refine wpAny_bind (wpAny_setScan_of key ho hd R.fit el ?_)
  cases hfi : List.findIdx? (fun e => (mixKind P w).is k e.2) es.toList with
  | some j =>
    dsimp only
    obtain ⟨hj, pj, _⟩ := List.findIdx?_eq_some_iff_getElem.mp hfi
    have mem : k ∈ L := (ent_mem R.cont k).mpr ⟨es.toList[j], List.getElem_mem hj, (entK_is _ k).mp pj⟩
    refine wpAny_pure (wpAny_pure ?_)
    exact q _ s.heap es ep t L (Heap.SameBut.refl a s.heap) R fun j => ⟨.inl, fun z => z.elim id fun e => e ▸ mem⟩
  | none =>
    dsimp only
    have out : k ∉ L := fun z => by
      obtain ⟨e, he, ee⟩ := (ent_mem R.cont k).mp z
      have c := List.findIdx?_eq_none_iff.mp hfi e he
      rw [(entK_is (P := P) (w := w) e k).mpr ee] at c
      cases c
    have gone : ∀ (b : Bool) {u' : Shared} {Q' : Unit → Shared → Prop}, Q' () u' → wpAny (model P w) A (match b with | true => rule "set.scan.the-table-gave-way" | false => pure ()) Q' E u' :=
      fun b u' Q' z => by cases b <;> first | exact wpAny_pure z | exact wpAny_rule z
    have pm := layNew_perm t es ((mixKind P w).hash k) u
    have f1 := layNew_fits t es ((mixKind P w).hash k) u
    have r1 := layNew_ris t es ((mixKind P w).hash k) u R.ris
    have l1 := layNew_led t es ((mixKind P w).hash k) u
    generalize layNew t es ((mixKind P w).hash k) u = Z at pm f1 r1 l1 ⊢
    obtain ⟨es1, t1, dummy, gave⟩ := Z
    dsimp only at pm f1 r1 l1 ⊢
    rw [Array.toList_push] at pm
    have pc : es1.toList.Perm (((mixKind P w).hash k, u) :: es.toList) := pm.trans (List.perm_append_singleton _ _)
    have ek : entK ((mixKind P w).hash k, u) = some k := (entK_is (P := P) (w := w) _ k).mp key
    obtain ⟨L1, pL, hc1⟩ := perm_map (some : Key → Option Key) (L := k :: L) (ws := (k :: L).map some) ((pc.map entK).trans (by rw [List.map_cons, ek, R.cont]; exact List.Perm.refl _)) rfl
    have hh1 : ∀ e ∈ es1.toList, ∀ j, entK e = some j → e.1 = (mixKind P w).hash j := fun e he j hj => by
      rcases List.mem_cons.mp (pc.mem_iff.mp he) with z | z
      · rw [z] at hj ⊢
        rw [ek] at hj
        cases hj
        rfl
      · exact R.hsh e z j hj
    have once1 : L1.Nodup := pL.nodup_iff.mpr (List.nodup_cons.mpr ⟨out, R.once⟩)
    have few1 : L1.length < 4000 := by rw [pL.length_eq]; exact room
    have made1 : w.params.followText "set-order" = true ∨ t1.led = true := by rw [l1]; exact R.made
    have fin : ∀ g es2 ep2 t2 L2, Heap.SameBut a s.heap g → ScR P w g a L2 es2 ep2 t2 → L2.Perm L1 → Q true { s with heap := g } := fun g es2 ep2 t2 L2 sb R2 p2 => q _ g es2 ep2 t2 L2 sb R2 fun j => by
      rw [(p2.trans pL).mem_iff, List.mem_cons]
      exact Or.comm
    refine wpAny_bind (gone _ ?_)
    split
    · refine wpAny_bind ?_
      rw [hashByValue_scannable 8 scn]
      refine wpAny_pure ?_
      refine sc_store ho hex hd hc1 hh1 once1 few1 ?_ ?_ ?_ (g := fun b => match b with | true => rule "set.scan.the-table-gave-way" | false => pure ()) ?_ ?_
      · first | (split <;> first | exact f1 | exact SetTable.fits_plain_off f1) | exact f1
      · first | (split <;> exact r1) | exact r1
      · first | (split <;> exact made1) | exact made1
      · intro b u' Q' z; cases b <;> first | exact wpAny_pure z | exact wpAny_rule z
      · intro g es2 ep2 t2 L2 sb R2 p2; dsimp only; exact wpAny_pure (fin g es2 ep2 t2 L2 sb R2 p2)
    · refine wpAny_bind (wpAny_pure ?_)
      simp only [↓reduceIte]
      refine sc_store ho hex hd hc1 hh1 once1 few1 f1 r1 made1 (g := fun b => match b with | true => rule "set.scan.the-table-gave-way" | false => pure ()) ?_ ?_
      · intro b u' Q' z; cases b <;> first | exact wpAny_pure z | exact wpAny_rule z
      · intro g es2 ep2 t2 L2 sb R2 p2; dsimp only; exact wpAny_pure (fin g es2 ep2 t2 L2 sb R2 p2)
end
end Pyr

set_option Elab.async false
set_option autoImplicit false
set_option linter.all false
set_option maxRecDepth 100000
set_option maxHeartbeats 4000000
/-! set comprehensions of any kind of items, with one for and with two -/
namespace Pyr
open PySem PySem.Spec PyProof.Rows L2 Evl
/-- y may be put into the set at l, which is o' then -/
def AddOk (X : Cx) (H : Hp) (l : Addr) (y : V) (o' : HO) : Prop := ∀ (X' : Cx) (pins : List (Addr × Obj)) (σ : L2.St) (s : Shared) (u : Value) (Q E : Value → Shared → Prop), X'.prog = X.prog → X'.w = X.w → X'.A = X.A → X'.K = X.K → Inv X' pins σ H s → RelV y u →
  (∀ s', Inv X' pins σ (upd H l o') s' → Q .none s') → wpAny (model X.prog X.w) X.A (call (.builtin "set.add") [.ref l, u]) Q E s
section
variable {P : Program} {w : World} {A : Around} {E : Value → Shared → Prop} {s : Shared} {a : Addr} {ks : List Key}
theorem sc_add {u : Value} {k : Key} {Q : Value → Shared → Prop} (S : ScS P w s.heap a ks) (ru : RelV (kV k) u) (room : ks.length + 1 < 4000) (q : ∀ g tk, Heap.SameBut a s.heap g → ScS P w g a (ks ++ [k]) → Q .none { s with heap := g, toks := tk }) :
    wpAny (model P w) A (call (.builtin "set.add") [.ref a, u]) Q E s := by
  obtain ⟨L, es, ep, t, R, m⟩ := S.ex
  have ty : s.TypeIs (.ref a) "set" := by
    obtain ⟨o, ho, hc, _⟩ := R.here
    exact ⟨o, ho, hc.1⟩
  have few : L.length ≤ ks.length := sub_len L ks R.once fun x hx => (m x).mp hx
  refine wpAny_call_entry PySem.F.slot_set_add ty PySem.F.entry_set_add ?_ (PySem.F.args_set_add_2 _ _)
  unfold Builtin.«set.add» Builtin.Frozenset.oneOther
  simp only [List.isEmpty_nil, bind_assoc]
  unfold Builtin.Frozenset.addrOf setAdd
  refine wpAny_bind (wpAny_pure ?_)
  try dsimp only
  refine wpAny_bind (wpAny_pure ?_)
  try dsimp only
  refine wpAny_bind ?_
  refine wpAny_holding ?_
  refine wpAny_bind ((mixKind P w).pyHash (kV_is ru) ?_)
  refine sc_put (s := { s with toks := s.toks + 1 }) R ru (by omega) fun b g es2 ep2 t2 L2 sb R2 m2 => ?_
  show wpAny _ _ (ret Value.none) _ _ _
  refine wpAny_pure ⟨_, rfl, q g _ sb ⟨L2, es2, ep2, t2, R2, fun j => ?_⟩⟩
  rw [m2, m, List.mem_append, List.mem_singleton]
end
section
variable {X : Cx}
theorem scO_get {pins : List (Addr × Obj)} {σ : L2.St} {H : Hp} {s : Shared} {a : Addr} {ks : List Key} (I : Inv X pins σ H s) (ha : H a = some (scO X.prog X.w a ks)) : ScS X.prog X.w s.heap a ks := (I.hok a _ ha).1
theorem addOk_sc {H : Hp} {l : Addr} {ks : List Key} {k : Key} (hl : H l = some (scO X.prog X.w l ks)) (room : ks.length + 1 < 4000) : AddOk X H l (kV k) (scO X.prog X.w l (ks ++ [k])) := by
  intro X' pins σ s u Q E e1 e2 e3 e4 I ru q
  rw [← e1, ← e2] at hl q ⊢
  rw [← e3]
  refine sc_add (scO_get I hl) ru room fun g tk sb S => ?_
  have there : ∃ v, g.get? l = some v := by
    obtain ⟨L, es, ep, t, R, _⟩ := S.ex
    obtain ⟨o, ho, _⟩ := R.here
    exact ⟨o, ho⟩
  exact q _ (I.write (e := l) (t' := tk) (by rw [hl]; exact True.intro) (.inl rfl) (fun b v nb hv => (sb.2 b nb).trans hv) there (scO_ok S))
theorem addOk_key {H : Hp} {l x : Addr} {k : NestedKey} {ps : List (Addr × NestedKey)} (hu : X.A.units + 65 < cLine) (hl : H l = some (keyO X.prog X.w l ps)) (room : ps.length + 1 < 64) (kd : Keyed X.K H (ps ++ [(x, k)])) : AddOk X H l (.ref x) (keyO X.prog X.w l (ps ++ [(x, k)])) := by
  intro X' pins σ s u Q E e1 e2 e3 e4 I ru q
  cases (show u = Value.ref x from ru)
  rw [← e1, ← e2] at hl q ⊢
  rw [← e3]
  exact add_ok I (by rw [e3]; exact hu) hl room (by rw [e4]; exact kd) q
/-- what a turn must do, the new set at l -/
def tKg (X : Cx) (o0 : Addr → HO) (wi : TI) (g : TG) (tt : TT) (te : TE) (own : List Nat) : TE := fun σ H Q => wi σ H fun J H1 => ∀ l, H1 l = none → ∃ W : Nat → Nat → Hp → Prop, (∃ m, W 0 m (upd H1 l (o0 l))) ∧ ∀ i m H2, W i m H2 →
  (J.stop i H2 ∧ Q (.ref l) H2) ∨ (J.go i H2 ∧ ∃ Nx : Hp → Prop, (∀ H3, Nx H3 → ∃ m', m' < m ∧ W (i + 1) m' H3) ∧ ∀ v H3, J.yld i H2 v H3 → g v (wipe σ own) H3 fun σ2 H4 => wipe σ2 own = wipe σ own ∧ tt σ2 H4 fun b H5 =>
    if b = true then te σ2 H5 fun y H6 => ∃ o', AddOk X H6 l y o' ∧ Nx (upd H6 l o') else Nx H5)
theorem pe_kg {o0 : Addr → HO} {elt tg iter : Expr} {ifs : List Expr} {scope : Scope} {own : List (PySem.Str × Nat)} {pos : Pos} {wi : TI} {g : TG} {tt : TT} {te : TE} (C : CtE X) (new : ∀ (H : Hp) (h : Heap), ObjOk X.prog X.w H (h.push { cls := .type "set", dict := none, data := .set #[] 0 (.fresh 0 0 (!X.w.params.followText "set-order")) }) h.objs.size (o0 h.objs.size)) (hi : PI X tg iter wi) (ok : BlkOk X.N X.env.scope scope own)
    (hg : ∀ (s : Shared) (H : Hp) (C : Addr) (cl : List (PySem.Str × Addr)) (fp : List Addr), PG (X.blk s H scope (compEnvC scope cl C X.env) fp) tg g) (ht : ∀ (s : Shared) (H : Hp) (C : Addr) (cl : List (PySem.Str × Addr)) (fp : List Addr), PTs (X.blk s H scope (compEnvC scope cl C X.env) fp) ifs tt)
    (he : ∀ (s : Shared) (H : Hp) (C : Addr) (cl : List (PySem.Str × Addr)) (fp : List Addr), PE (X.blk s H scope (compEnvC scope cl C X.env) fp) elt te) (hs : ∀ x, foldedSetIterable iter X.env x = pure x := by intro _; rfl) :
    PE X (.SetComp elt [⟨tg, iter, ifs, 0⟩] scope pos) (tKg X o0 wi g tt te (own.map (·.2))) := by
  refine ⟨fun pins s σ H Q I h => ?_⟩
  rw [PpSet.eval_SetComp]
  have fr : ∀ y ∈ scope.names, y.2 = .free → ∃ c, X.env.cells.lookup y.1 = some c := fun y hy e => (ok.free y hy e).elim (fun z => I.ok.has _ (.inl z)) fun z => I.ok.has _ (.inr z)
  refine wpAny_comprehension_free (use := none) rfl hs (closure_ok fr) ok.kind (fun y hy e => by rw [ok.uniq y hy, e]) (thn (hi.run pins s σ H _ I h) fun _ _ hx => thn hx fun _ s1 ⟨it, fp, tn, J, H1, e, I1, T, t1, f1, q⟩ => ?_)
  subst e
  refine PpSet.newSet_ok (newEnv_comp ?_)
  have fresh : H1 s1.heap.objs.size = none := I1.hok.fresh (Nat.le_refl _)
  obtain ⟨W, ⟨m, w0⟩, turn⟩ := q _ fresh
  have I2 := I1.laid (t' := s1.toks) (fun b o e => Heap.get?_push_of_some { cls := .type "set", dict := none, data := .set #[] 0 (.fresh 0 0 (!X.w.params.followText "set-order")) } e) (Nat.le_refl _) (new _ s1.heap)
  have in1 : ∀ b ∈ fp, b < s1.heap.objs.size := fun b hb => let ⟨_, e, _⟩ := T.obj _ _ t1 b hb; Heap.lt_size e
  generalize hl : s1.heap.objs.size = l at fresh w0 turn I2 ⊢
  generalize hz : s1.heap.push { cls := .type "set", dict := none, data := .set #[] 0 (.fresh 0 0 (!X.w.params.followText "set-order")) } = z at I2 ⊢
  have zs : z.objs.size = l + 1 := by rw [← hz, Heap.size_push, hl]
  have zk : ∀ b o, s1.heap.get? b = some o → z.get? b = some o := fun b o e => by rw [← hz]; exact Heap.get?_push_of_some _ e
  generalize hs2 : ({ s1 with heap := z } : Shared) = s2
  have I2' : Inv X pins σ (upd H1 l (o0 l)) s2 := by rw [← hs2]; exact I2
  have s2h : s2.heap = z := by rw [← hs2]
  generalize hH2 : upd H1 l (o0 l) = H2 at I2' w0
  have f2 : ∀ b ∈ fp, FpOk X pins H2 b ∧ b < s2.heap.objs.size := fun b hb => by
    have lt := in1 b hb
    rw [hl] at lt
    rw [s2h, zs, ← hH2]
    refine ⟨⟨?_, (f1 b hb).2⟩, Nat.lt_succ_of_lt lt⟩
    rw [upd_ne (Nat.ne_of_lt lt)]
    exact (f1 b hb).1
  have t2 : tn 0 s2.heap := T.keep _ _ _ t1 fun b _ o e => by rw [s2h]; exact zk b o e
  have I3 := block_start I2' ok C.nd f2
  have pg := hg s2 H2 s2.heap.objs.size (cellsFrom (s2.heap.objs.size + 1) scope.names (cloFrom X.env.cells scope.names [])) fp
  have pt := ht s2 H2 s2.heap.objs.size (cellsFrom (s2.heap.objs.size + 1) scope.names (cloFrom X.env.cells scope.names [])) fp
  have pe := he s2 H2 s2.heap.objs.size (cellsFrom (s2.heap.objs.size + 1) scope.names (cloFrom X.env.cells scope.names [])) fp
  show codeAny _ _ (.compStart (.SetComp elt [⟨tg, iter, ifs, 0⟩] scope pos) 0 (.ref it) (.ref l) (compEnvC scope (cellsFrom (s2.heap.objs.size + 1) scope.names (cloFrom X.env.cells scope.names [])) s2.heap.objs.size X.env)) (compPost (model X.prog X.w) X.A X.xe none (EP X pins σ Q) (.ref l) s2.heap.objs.size) { s2 with heap := pushCells (s2.heap.push { cls := .type "dict", data := .dict #[] }) scope.names }
  have t3 : tn 0 ({ s2 with heap := pushCells (s2.heap.push { cls := .type "dict", data := .dict #[] }) scope.names } : Shared).heap := T.keep _ _ _ t2 fun b _ o e => pushCells_keeps _ _ _ _ (Heap.get?_push_of_some _ e)
  generalize hce : compEnvC scope (cellsFrom (s2.heap.objs.size + 1) scope.names (cloFrom X.env.cells scope.names [])) s2.heap.objs.size X.env = ce at I3 pg pt pe ⊢
  have cL : ce.locals = s2.heap.objs.size := by rw [← hce]; rfl
  generalize ({ s2 with heap := pushCells (s2.heap.push { cls := .type "dict", data := .dict #[] }) scope.names } : Shared) = s3 at I3 t3 ⊢
  have nofp : ∀ b ∈ fp, H2 b = none := fun b hb => (f2 b hb).1.1
  have still : ∀ {σ' : L2.St} {H' : Hp} {u : Shared}, Inv (X.blk s2 H2 scope ce fp) [] σ' H' u → (∀ b ∈ fp, H' b = none) → ∀ b ∈ fp, FpOk (X.blk s2 H2 scope ce fp) [] H' b := fun {σ' H' u} J nn b hb =>
    ⟨nn b hb, (J.ok.exf b hb).1, J.ok.exfs b hb, .inl hb, fun y c e => (J.ok.exf b hb).2 y c e, fun p hp => absurd (show p ∈ ([] : List (Addr × Obj)) ++ [] from hp) (by simp)⟩
  have loop : codeAny (model X.prog X.w) X.A (.compLoop (.SetComp elt [⟨tg, iter, ifs, 0⟩] scope pos) 0 (.ref it) (.ref l) ce) (compPost (model X.prog X.w) X.A X.xe none (EP X pins σ Q) (.ref l) s2.heap.objs.size) s3 := by
    refine PpSet.compLoopS_any (fun n u => ∃ i H', Inv (X.blk s2 H2 scope ce fp) [] (wipe σ (own.map (·.2))) H' u ∧ tn i u.heap ∧ (∀ b ∈ fp, H' b = none) ∧ W i n H') (fun n u ⟨i, Hi, Ii, ti, ni, wi⟩ => ?_) m ⟨0, H2, I3, t3, nofp, w0⟩
    rcases turn i n Hi wi with ⟨stop, fin⟩ | ⟨go, Nx, less, step⟩
    · refine thnF (T.done (X.blk s2 H2 scope ce fp) rfl rfl rfl C.calm i [] u _ Hi (fun _ _ => False) Ii (still Ii ni) ti stop) fun r u1 ⟨hr, J⟩ => ?_
      subst hr
      have back : Inv X pins σ Hi u1 := I2'.call' (ch := fp) J.os J.base J.hok J.bare fun b hb => ⟨(f2 b hb).1.2.2.2.1, (f2 b hb).1.2.1, (f2 b hb).1.2.2.2.2.1, (f2 b hb).1.2.2.2.2.2⟩
      have nC : Hi s2.heap.objs.size = none := by
        have q : Hi ce.locals = none := J.free
        rwa [cL] at q
      obtain ⟨mm, hm, _⟩ := J.loc
      have hm : u1.heap.Ns ce.locals mm := hm
      rw [cL] at hm
      obtain ⟨z0, z1, z2, z3, z4, z5⟩ := I2'.fpOk (Nat.le_refl _) nC
      exact ⟨mm, hm, fun g sb => ⟨.ref l, Hi, back.turned (t' := u1.toks) (fun b o nb e => (sb.2 b nb).trans e) z0 z1 z3 z4 z5, rfl, fin⟩⟩
    · refine thnF (T.item (X.blk s2 H2 scope ce fp) rfl rfl rfl C.calm i [] u _ Hi (fun _ _ => False) Ii (still Ii ni) ti go) fun r u1 ⟨v, hr, h1⟩ => ?_
      subst hr
      refine thnF h1 fun _ u2 ⟨y, Hy, J, ry, yl, ty, ny⟩ => ?_
      refine thnF (pg.run _ u2 _ Hy y v _ (J.pinned (still J ny) (T.obj _ _ ty)) ry (step y Hy yl)) fun _ u3 ⟨σ3, H3, J3, hw, q3⟩ => ?_
      refine thnF (pt.run _ u3 σ3 H3 _ J3 q3) fun b u4 ⟨H4, J4, q4⟩ => ?_
      have next : ∀ {u5 : Shared} {H5 : Hp}, Inv (X.blk s2 H2 scope ce fp) ([] ++ pinsAt fp u2.heap) σ3 H5 u5 → Nx H5 → ∃ m, m < n ∧ ∃ i H', Inv (X.blk s2 H2 scope ce fp) [] (wipe σ (own.map (·.2))) H' u5 ∧ tn i u5.heap ∧ (∀ b ∈ fp, H' b = none) ∧ W i m H' := fun {u5 H5} J5 nx => by
        obtain ⟨m', lt, w'⟩ := less H5 nx
        have held : ∀ b ∈ fp, ∀ o, u2.heap.get? b = some o → u5.heap.get? b = some o ∧ H5 b = none := fun b hb o e =>
          let p := J5.pin (b, o) (List.mem_append_right _ (List.mem_append_right _ (mem_pinsAt hb e)))
          ⟨p.1, p.2.1⟩
        refine ⟨m', lt, i + 1, H5, (J5.unpinned (pins := [])).weak (by rw [← hw, wipe_length]) (fun j d e => by rw [← hw] at e; exact (wipe_some e).1), T.keep _ _ _ ty fun b hb o e => (held b hb o e).1, fun b hb => ?_, w'⟩
        obtain ⟨o, e, _⟩ := T.obj _ _ ty b hb
        exact (held b hb o e).2
      cases b with
      | false => exact next J4 q4
      | true =>
        refine thnF (pe.run _ u4 σ3 H4 _ J4 q4) fun x u5 ⟨xv, H5, J5, rx, o', add, nx⟩ => ?_
        exact add (X.blk s2 H2 scope ce fp) _ _ _ _ _ _ rfl rfl rfl rfl J5 rx fun u6 J6 => next J6 nx
  exact PpSet.codeAny_compStart_set loop (T.self X.A 0 _ _ _ t3 loop)
end
end Pyr

set_option Elab.async false
set_option autoImplicit false
set_option linter.all false
set_option maxRecDepth 100000
set_option maxHeartbeats 4000000
/-! {e for a in b if .. for c in d if ..} -/
namespace Pyr
open PySem PySem.Spec PyProof.Rows L2 Evl
/-- the comprehension's text -/
abbrev set2 (elt t0 i0 : Expr) (c0 : List Expr) (t1 i1 : Expr) (c1 : List Expr) (scope : Scope) (pos : Pos) : Expr := .SetComp elt [⟨t0, i0, c0, 0⟩, ⟨t1, i1, c1, 0⟩] scope pos
section
variable {elt t0 i0 t1 i1 : Expr} {c0 c1 : List Expr} {scope : Scope} {pos : Pos} {it acc : Value} {env : Env}
theorem turn_out : compTurn (set2 elt t0 i0 c0 t1 i1 c1 scope pos) 0 it acc env = (do
      standAt i0.pos
      match ← pyNext it with
      | none => pure (.done .next)
      | some v =>
        letOwnedTupleGo t0 it v
        assign t0 env v
        let mut good := true
        for c in c0 do
          if good then good ← isTrue c env (eval c env)
        if good then
          let x ← eval i1 env
          standAt i1.pos
          let x ← foldedSetIterable i1 env x
          let _ ← runOwn (.compStart (set2 elt t0 i0 c0 t1 i1 c1 scope pos) 1 (← holding [x] (pyIter x)) acc env) env
        again (.compLoop (set2 elt t0 i0 c0 t1 i1 c1 scope pos) 0 it acc env)) := by rfl
theorem turn_in : compTurn (set2 elt t0 i0 c0 t1 i1 c1 scope pos) 1 it acc env = (do
      standAt i1.pos
      match ← pyNext it with
      | none => pure (.done .next)
      | some v =>
        letOwnedTupleGo t1 it v
        assign t1 env v
        let mut good := true
        for c in c1 do
          if good then good ← isTrue c env (eval c env)
        if good then
          (do let x ← eval elt env; standAt elt.pos; let _ ← call (.builtin "set.add") [acc, x])
        again (.compLoop (set2 elt t0 i0 c0 t1 i1 c1 scope pos) 1 it acc env)) := by rfl
variable {prog : Program} {w : World} {A : Around} {R : Result → Shared → Prop} {s : Shared}
/-- the outer loop -/
theorem outer_go (plain : ∀ x, foldedSetIterable i1 env x = pure x) (I : Nat → Shared → Prop)
    (turn : ∀ n s, I n s → wpAny (model prog w) A (pyNext it) (fun r s1 => match r with
      | none => R (.ok .next) s1
      | some v => wpAny (model prog w) A (letOwnedTupleGo t0 it v) (fun _ s2 => wpAny (model prog w) A (assign t0 env v) (fun _ s3 =>
          wpAny (model prog w) A (forIn c0 true fun c r => if r = true then do let ok ← isTrue c env (eval c env); pure (ForInStep.yield ok) else pure (ForInStep.yield r)) (fun ok s4 =>
            if ok = true then wpAny (model prog w) A (eval i1 env) (fun x s5 => wpAny (model prog w) A (pyIter x) (fun it1 s6 =>
              codeAny (model prog w) A (.compStart (set2 elt t0 i0 c0 t1 i1 c1 scope pos) 1 it1 acc env) (fun r s7 => match r with
                | .ok _ => ∃ m, m < n ∧ I m s7
                | .error _ => False) s6) (notedBy (model prog w) A env fun e u => R (.error e) u) s5) (notedBy (model prog w) A env fun e u => R (.error e) u) s4
            else ∃ m, m < n ∧ I m s4) (notedBy (model prog w) A env fun e u => R (.error e) u) s3) (notedBy (model prog w) A env fun e u => R (.error e) u) s2) (notedBy (model prog w) A env fun e u => R (.error e) u) s1) (notedBy (model prog w) A env fun e u => R (.error e) u) s)
    (n : Nat) (h : I n s) : codeAny (model prog w) A (.compLoop (set2 elt t0 i0 c0 t1 i1 c1 scope pos) 0 it acc env) R s := by
  refine codeAny_loop rfl I (fun n s hI => ?_) n h
  show wpAny _ A ((compTurn (set2 elt t0 i0 c0 t1 i1 c1 scope pos) 0 it acc env).onRaise (fun x => do noteFrame x env; theTreesLotGoes x)) _ _ s
  refine wpAny_noted ?_
  rw [turn_out]
  refine wpAny_bind (wpAny_standAt (wpAny_bind (wpAny_mono (turn n s hI) (fun r s1 h1 => ?_) fun _ _ z => z)))
  cases r with
  | none => exact wpAny_pure h1
  | some v =>
    refine wpAny_bind (wpAny_mono h1 (fun _ s2 h2 => wpAny_bind (wpAny_mono h2 (fun _ s3 h3 => wpAny_bind (wpAny_mono h3 (fun good s4 h4 => ?_) fun _ _ z => z)) fun _ _ z => z)) fun _ _ z => z)
    cases good with
    | false => exact wpAny_pure ⟨rfl, h4⟩
    | true =>
      refine wpAny_bind (wpAny_mono h4 (fun x s5 h5 => wpAny_bind (wpAny_standAt (wpAny_bind (wpAny_of_eq (plain x) (wpAny_bind (wpAny_holding (wpAny_mono h5 (fun it1 s6 h6 => ?_) fun _ _ z => z))))))) fun _ _ z => z)
      refine wpAny_bind (wpAny_runOwn ?_)
      rw [Around.mark_none]
      refine codeAny_mono h6 fun r s7 hr => ?_
      cases r with
      | ok f =>
        first
          | exact wpAny_pure ⟨rfl, hr⟩
          | exact wpAny_bind (wpAny_pure (wpAny_pure ⟨rfl, hr⟩))
      | error e => exact hr.elim
/-- the inner loop -/
theorem inner_go (I : Nat → Shared → Prop)
    (turn : ∀ n s, I n s → wpAny (model prog w) A (pyNext it) (fun r s1 => match r with
      | none => R (.ok .next) s1
      | some v => wpAny (model prog w) A (letOwnedTupleGo t1 it v) (fun _ s2 => wpAny (model prog w) A (assign t1 env v) (fun _ s3 =>
          wpAny (model prog w) A (forIn c1 true fun c r => if r = true then do let ok ← isTrue c env (eval c env); pure (ForInStep.yield ok) else pure (ForInStep.yield r)) (fun ok s4 =>
            if ok = true then wpAny (model prog w) A (eval elt env) (fun x s5 =>
              wpAny (model prog w) A (call (.builtin "set.add") [acc, x]) (fun _ s6 => ∃ m, m < n ∧ I m s6) (notedBy (model prog w) A env fun e u => R (.error e) u) s5) (notedBy (model prog w) A env fun e u => R (.error e) u) s4
            else ∃ m, m < n ∧ I m s4) (notedBy (model prog w) A env fun e u => R (.error e) u) s3) (notedBy (model prog w) A env fun e u => R (.error e) u) s2) (notedBy (model prog w) A env fun e u => R (.error e) u) s1) (notedBy (model prog w) A env fun e u => R (.error e) u) s)
    (n : Nat) (h : I n s) : codeAny (model prog w) A (.compLoop (set2 elt t0 i0 c0 t1 i1 c1 scope pos) 1 it acc env) R s := by
  refine codeAny_loop rfl I (fun n s hI => ?_) n h
  show wpAny _ A ((compTurn (set2 elt t0 i0 c0 t1 i1 c1 scope pos) 1 it acc env).onRaise (fun x => do noteFrame x env; theTreesLotGoes x)) _ _ s
  refine wpAny_noted ?_
  rw [turn_in]
  refine wpAny_bind (wpAny_standAt (wpAny_bind (wpAny_mono (turn n s hI) (fun r s1 h1 => ?_) fun _ _ z => z)))
  cases r with
  | none => exact wpAny_pure h1
  | some v =>
    refine wpAny_bind (wpAny_mono h1 (fun _ s2 h2 => wpAny_bind (wpAny_mono h2 (fun _ s3 h3 => wpAny_bind (wpAny_mono h3 (fun good s4 h4 => ?_) fun _ _ z => z)) fun _ _ z => z)) fun _ _ z => z)
    cases good with
    | false => exact wpAny_pure ⟨rfl, h4⟩
    | true => exact wpAny_bind (wpAny_bind (wpAny_mono h4 (fun x s5 h5 => wpAny_bind (wpAny_standAt (wpAny_bind (wpAny_mono h5 (fun _ s6 h6 => wpAny_pure (wpAny_pure ⟨rfl, h6⟩)) fun _ _ z => z)))) fun _ _ z => z))
/-- a clause's start -/
theorem start_in (h0 : codeAny (model prog w) A (.compLoop (set2 elt t0 i0 c0 t1 i1 c1 scope pos) 1 it acc env) R s)
    (h : wpAny (model prog w) A (pyIter it) (fun it' u => codeAny (model prog w) A (.compLoop (set2 elt t0 i0 c0 t1 i1 c1 scope pos) 1 it' acc env) R u) (notedBy (model prog w) A env fun x u => R (.error x) u) s) :
    codeAny (model prog w) A (.compStart (set2 elt t0 i0 c0 t1 i1 c1 scope pos) 1 it acc env) R s := by
  refine codeAny_of_tree ?_
  show wpAny _ _ ((compStart (set2 elt t0 i0 c0 t1 i1 c1 scope pos) 1 it acc env).onRaise (fun x => do noteFrame x env; standAt theWindowsPlace)) _ _ s
  refine wpAny_notedAt ?_
  unfold compStart
  show wpAny _ _ (ask >>= _) _ _ s
  refine wpAny_bind (wpAny_askSetting (wpAny_ite ?_))
  split
  · first
      | exact wpAny_bind (wpAny_pure (wpAny_pure ⟨rfl, h0⟩))
      | exact wpAny_pure ⟨rfl, h0⟩
  · first
      | exact wpAny_bind (wpAny_rule (wpAny_bind (wpAny_standAt (wpAny_bind (wpAny_mono h (fun _ u z => wpAny_pure ⟨rfl, z⟩) fun _ _ z => z)))))
      | (refine wpAny_bind (wpAny_rule ?_); show wpAny _ _ (standAt i1.pos >>= _) _ _ s; exact wpAny_bind (wpAny_standAt (wpAny_bind (wpAny_mono h (fun _ u z => wpAny_pure ⟨rfl, z⟩) fun _ _ z => z))))
end
end Pyr

set_option Elab.async false
set_option autoImplicit false
set_option linter.all false
set_option maxRecDepth 100000
set_option maxHeartbeats 8000000
/-! {e for a in b if .. for c in d if ..}, run -/
namespace Pyr
open PySem PySem.Spec PyProof.Rows L2 Evl
section
variable {X : Cx}
/-- what the turns must do, the new set at l; vs1: the slots of the second target -/
def tKg2 (X : Cx) (o0 : Addr → HO) (wi : TI) (g : TG) (tt : TT) (wi1 : TI) (g1 : TG) (tt1 : TT) (te : TE) (own vs1 : List Nat) : TE := fun σ H Q => wi σ H fun J H1 => ∀ l, H1 l = none → ∃ W : Nat → Nat → Hp → Prop, (∃ m, W 0 m (upd H1 l (o0 l))) ∧ ∀ i m H2, W i m H2 →
  (J.stop i H2 ∧ Q (.ref l) H2) ∨ (J.go i H2 ∧ ∃ Nx : Hp → Prop, (∀ H3, Nx H3 → ∃ m', m' < m ∧ W (i + 1) m' H3) ∧ ∀ v H3, J.yld i H2 v H3 → g v (wipe σ own) H3 fun σ2 H4 => wipe σ2 own = wipe σ own ∧ tt σ2 H4 fun b H5 =>
    if b = true then wi1 σ2 H5 fun J1 H6 => ∃ W1 : Nat → Nat → Hp → Prop, (∃ m, W1 0 m H6) ∧ ∀ j k H7, W1 j k H7 →
      (J1.stop j H7 ∧ Nx H7) ∨ (J1.go j H7 ∧ ∃ Nx1 : Hp → Prop, (∀ H8, Nx1 H8 → ∃ k', k' < k ∧ W1 (j + 1) k' H8) ∧ ∀ v1 H8, J1.yld j H7 v1 H8 → g1 v1 (wipe σ2 vs1) H8 fun σ3 H9 => wipe σ3 vs1 = wipe σ2 vs1 ∧ tt1 σ3 H9 fun b1 H10 =>
        if b1 = true then te σ3 H10 fun y H11 => ∃ o', AddOk X H11 l y o' ∧ Nx1 (upd H11 l o') else Nx1 H10)
    else Nx H5)
theorem pe_kg2 {o0 : Addr → HO} {elt tg iter tg1 iter1 : Expr} {ifs ifs1 : List Expr} {vs1 : List Nat} {wi1 : TI} {g1 : TG} {tt1 : TT} {scope : Scope} {own : List (PySem.Str × Nat)} {pos : Pos} {wi : TI} {g : TG} {tt : TT} {te : TE} (C : CtE X) (new : ∀ (H : Hp) (h : Heap), ObjOk X.prog X.w H (h.push { cls := .type "set", dict := none, data := .set #[] 0 (.fresh 0 0 (!X.w.params.followText "set-order")) }) h.objs.size (o0 h.objs.size)) (hi : PI X tg iter wi) (ok : BlkOk X.N X.env.scope scope own) (hv : ∀ i ∈ vs1, i ∈ own.map (·.2))
    (hg : ∀ (s : Shared) (H : Hp) (C : Addr) (cl : List (PySem.Str × Addr)) (fp : List Addr), PG (X.blk s H scope (compEnvC scope cl C X.env) fp) tg g) (ht : ∀ (s : Shared) (H : Hp) (C : Addr) (cl : List (PySem.Str × Addr)) (fp : List Addr), PTs (X.blk s H scope (compEnvC scope cl C X.env) fp) ifs tt)
    (hi1 : ∀ (s : Shared) (H : Hp) (C : Addr) (cl : List (PySem.Str × Addr)) (fp : List Addr), PI (X.blk s H scope (compEnvC scope cl C X.env) fp) tg1 iter1 wi1) (hg1 : ∀ (s : Shared) (H : Hp) (C : Addr) (cl : List (PySem.Str × Addr)) (fp : List Addr), PG (X.blk s H scope (compEnvC scope cl C X.env) fp) tg1 g1)
    (ht1 : ∀ (s : Shared) (H : Hp) (C : Addr) (cl : List (PySem.Str × Addr)) (fp : List Addr), PTs (X.blk s H scope (compEnvC scope cl C X.env) fp) ifs1 tt1) (hs1 : ∀ env x, foldedSetIterable iter1 env x = pure x := by intro _ _; rfl)
    (he : ∀ (s : Shared) (H : Hp) (C : Addr) (cl : List (PySem.Str × Addr)) (fp : List Addr), PE (X.blk s H scope (compEnvC scope cl C X.env) fp) elt te) (hs : ∀ x, foldedSetIterable iter X.env x = pure x := by intro _; rfl) :
    PE X (set2 elt tg iter ifs tg1 iter1 ifs1 scope pos) (tKg2 X o0 wi g tt wi1 g1 tt1 te (own.map (·.2)) vs1) := by
  refine ⟨fun pins s σ H Q I h => ?_⟩
  unfold set2
  rw [PpSet.eval_SetComp]
  have fr : ∀ y ∈ scope.names, y.2 = .free → ∃ c, X.env.cells.lookup y.1 = some c := fun y hy e => (ok.free y hy e).elim (fun z => I.ok.has _ (.inl z)) fun z => I.ok.has _ (.inr z)
  refine wpAny_comprehension_free (use := none) rfl hs (closure_ok fr) ok.kind (fun y hy e => by rw [ok.uniq y hy, e]) (thn (hi.run pins s σ H _ I h) fun _ _ hx => thn hx fun _ s1 ⟨it, fp, tn, J, H1, e, I1, T, t1, f1, q⟩ => ?_)
  subst e
  refine PpSet.newSet_ok (newEnv_comp ?_)
  have fresh : H1 s1.heap.objs.size = none := I1.hok.fresh (Nat.le_refl _)
  obtain ⟨W, ⟨m, w0⟩, turn⟩ := q _ fresh
  have I2 := I1.laid (t' := s1.toks) (fun b o e => Heap.get?_push_of_some { cls := .type "set", dict := none, data := .set #[] 0 (.fresh 0 0 (!X.w.params.followText "set-order")) } e) (Nat.le_refl _) (new _ s1.heap)
  have in1 : ∀ b ∈ fp, b < s1.heap.objs.size := fun b hb => let ⟨_, e, _⟩ := T.obj _ _ t1 b hb; Heap.lt_size e
  generalize hl : s1.heap.objs.size = l at fresh w0 turn I2 ⊢
  generalize hz : s1.heap.push { cls := .type "set", dict := none, data := .set #[] 0 (.fresh 0 0 (!X.w.params.followText "set-order")) } = z at I2 ⊢
  have zs : z.objs.size = l + 1 := by rw [← hz, Heap.size_push, hl]
  have zk : ∀ b o, s1.heap.get? b = some o → z.get? b = some o := fun b o e => by rw [← hz]; exact Heap.get?_push_of_some _ e
  generalize hs2 : ({ s1 with heap := z } : Shared) = s2
  have I2' : Inv X pins σ (upd H1 l (o0 l)) s2 := by rw [← hs2]; exact I2
  have s2h : s2.heap = z := by rw [← hs2]
  generalize hH2 : upd H1 l (o0 l) = H2 at I2' w0
  have f2 : ∀ b ∈ fp, FpOk X pins H2 b ∧ b < s2.heap.objs.size := fun b hb => by
    have lt := in1 b hb
    rw [hl] at lt
    rw [s2h, zs, ← hH2]
    refine ⟨⟨?_, (f1 b hb).2⟩, Nat.lt_succ_of_lt lt⟩
    rw [upd_ne (Nat.ne_of_lt lt)]
    exact (f1 b hb).1
  have t2 : tn 0 s2.heap := T.keep _ _ _ t1 fun b _ o e => by rw [s2h]; exact zk b o e
  have I3 := block_start I2' ok C.nd f2
  have pg := hg s2 H2 s2.heap.objs.size (cellsFrom (s2.heap.objs.size + 1) scope.names (cloFrom X.env.cells scope.names [])) fp
  have pt := ht s2 H2 s2.heap.objs.size (cellsFrom (s2.heap.objs.size + 1) scope.names (cloFrom X.env.cells scope.names [])) fp
  have pi1 := hi1 s2 H2 s2.heap.objs.size (cellsFrom (s2.heap.objs.size + 1) scope.names (cloFrom X.env.cells scope.names [])) fp
  have pg1 := hg1 s2 H2 s2.heap.objs.size (cellsFrom (s2.heap.objs.size + 1) scope.names (cloFrom X.env.cells scope.names [])) fp
  have pt1 := ht1 s2 H2 s2.heap.objs.size (cellsFrom (s2.heap.objs.size + 1) scope.names (cloFrom X.env.cells scope.names [])) fp
  have pe := he s2 H2 s2.heap.objs.size (cellsFrom (s2.heap.objs.size + 1) scope.names (cloFrom X.env.cells scope.names [])) fp
  show codeAny _ _ (.compStart (set2 elt tg iter ifs tg1 iter1 ifs1 scope pos) 0 (.ref it) (.ref l) (compEnvC scope (cellsFrom (s2.heap.objs.size + 1) scope.names (cloFrom X.env.cells scope.names [])) s2.heap.objs.size X.env)) (compPost (model X.prog X.w) X.A X.xe none (EP X pins σ Q) (.ref l) s2.heap.objs.size) { s2 with heap := pushCells (s2.heap.push { cls := .type "dict", data := .dict #[] }) scope.names }
  have t3 : tn 0 ({ s2 with heap := pushCells (s2.heap.push { cls := .type "dict", data := .dict #[] }) scope.names } : Shared).heap := T.keep _ _ _ t2 fun b _ o e => pushCells_keeps _ _ _ _ (Heap.get?_push_of_some _ e)
  generalize hce : compEnvC scope (cellsFrom (s2.heap.objs.size + 1) scope.names (cloFrom X.env.cells scope.names [])) s2.heap.objs.size X.env = ce at I3 pg pt pi1 pg1 pt1 pe ⊢
  have cL : ce.locals = s2.heap.objs.size := by rw [← hce]; rfl
  generalize ({ s2 with heap := pushCells (s2.heap.push { cls := .type "dict", data := .dict #[] }) scope.names } : Shared) = s3 at I3 t3 ⊢
  have nofp : ∀ b ∈ fp, H2 b = none := fun b hb => (f2 b hb).1.1
  have still : ∀ {σ' : L2.St} {H' : Hp} {u : Shared}, Inv (X.blk s2 H2 scope ce fp) [] σ' H' u → (∀ b ∈ fp, H' b = none) → ∀ b ∈ fp, FpOk (X.blk s2 H2 scope ce fp) [] H' b := fun {σ' H' u} J nn b hb =>
    ⟨nn b hb, (J.ok.exf b hb).1, J.ok.exfs b hb, .inl hb, fun y c e => (J.ok.exf b hb).2 y c e, fun p hp => absurd (show p ∈ ([] : List (Addr × Obj)) ++ [] from hp) (by simp)⟩
  have loop : codeAny (model X.prog X.w) X.A (.compLoop (set2 elt tg iter ifs tg1 iter1 ifs1 scope pos) 0 (.ref it) (.ref l) ce) (compPost (model X.prog X.w) X.A X.xe none (EP X pins σ Q) (.ref l) s2.heap.objs.size) s3 := by
    refine outer_go (hs1 ce) (fun n u => ∃ i H', Inv (X.blk s2 H2 scope ce fp) [] (wipe σ (own.map (·.2))) H' u ∧ tn i u.heap ∧ (∀ b ∈ fp, H' b = none) ∧ W i n H') (fun n u ⟨i, Hi, Ii, ti, ni, wi⟩ => ?_) m ⟨0, H2, I3, t3, nofp, w0⟩
    rcases turn i n Hi wi with ⟨stop, fin⟩ | ⟨go, Nx, less, step⟩
    · refine thnF (T.done (X.blk s2 H2 scope ce fp) rfl rfl rfl C.calm i [] u _ Hi (fun _ _ => False) Ii (still Ii ni) ti stop) fun r u1 ⟨hr, J⟩ => ?_
      subst hr
      have back : Inv X pins σ Hi u1 := I2'.call' (ch := fp) J.os J.base J.hok J.bare fun b hb => ⟨(f2 b hb).1.2.2.2.1, (f2 b hb).1.2.1, (f2 b hb).1.2.2.2.2.1, (f2 b hb).1.2.2.2.2.2⟩
      have nC : Hi s2.heap.objs.size = none := by
        have q : Hi ce.locals = none := J.free
        rwa [cL] at q
      obtain ⟨mm, hm, _⟩ := J.loc
      have hm : u1.heap.Ns ce.locals mm := hm
      rw [cL] at hm
      obtain ⟨z0, z1, z2, z3, z4, z5⟩ := I2'.fpOk (Nat.le_refl _) nC
      exact ⟨mm, hm, fun g sb => ⟨.ref l, Hi, back.turned (t' := u1.toks) (fun b o nb e => (sb.2 b nb).trans e) z0 z1 z3 z4 z5, rfl, fin⟩⟩
    · refine thnF (T.item (X.blk s2 H2 scope ce fp) rfl rfl rfl C.calm i [] u _ Hi (fun _ _ => False) Ii (still Ii ni) ti go) fun r u1 ⟨v, hr, h1⟩ => ?_
      subst hr
      refine thnF h1 fun _ u2 ⟨y, Hy, J, ry, yl, ty, ny⟩ => ?_
      refine thnF (pg.run _ u2 _ Hy y v _ (J.pinned (still J ny) (T.obj _ _ ty)) ry (step y Hy yl)) fun _ u3 ⟨σ3, H3, J3, hw, q3⟩ => ?_
      refine thnF (pt.run _ u3 σ3 H3 _ J3 q3) fun b u4 ⟨H4, J4, q4⟩ => ?_
      have next : ∀ {τ : L2.St} {u5 : Shared} {H5 : Hp}, Inv (X.blk s2 H2 scope ce fp) ([] ++ pinsAt fp u2.heap) τ H5 u5 → (wipe σ (own.map (·.2))).length = τ.length → (∀ (j : Nat) d, (wipe σ (own.map (·.2)))[j]? = some (some d) → τ[j]? = some (some d)) → Nx H5 →
          ∃ m, m < n ∧ ∃ i H', Inv (X.blk s2 H2 scope ce fp) [] (wipe σ (own.map (·.2))) H' u5 ∧ tn i u5.heap ∧ (∀ b ∈ fp, H' b = none) ∧ W i m H' := fun {τ u5 H5} J5 len kp nx => by
        obtain ⟨m', lt, w'⟩ := less H5 nx
        have held : ∀ b ∈ fp, ∀ o, u2.heap.get? b = some o → u5.heap.get? b = some o ∧ H5 b = none := fun b hb o e =>
          let p := J5.pin (b, o) (List.mem_append_right _ (List.mem_append_right _ (mem_pinsAt hb e)))
          ⟨p.1, p.2.1⟩
        refine ⟨m', lt, i + 1, H5, (J5.unpinned (pins := [])).weak len kp, T.keep _ _ _ ty fun b hb o e => (held b hb o e).1, fun b hb => ?_, w'⟩
        obtain ⟨o, e, _⟩ := T.obj _ _ ty b hb
        exact (held b hb o e).2
      have len3 : (wipe σ (own.map (·.2))).length = σ3.length := by rw [← hw, wipe_length]
      have kp3 : ∀ (j : Nat) d, (wipe σ (own.map (·.2)))[j]? = some (some d) → σ3[j]? = some (some d) := fun j d e => by
        rw [← hw] at e
        exact (wipe_some e).1
      have kp4 : ∀ (j : Nat) d, (wipe σ (own.map (·.2)))[j]? = some (some d) → (wipe σ3 vs1)[j]? = some (some d) := fun j d e => by
        rw [← hw] at e
        obtain ⟨e1, e2⟩ := wipe_some e
        rw [wipe_out fun z => e2 (hv j z)]
        exact e1
      cases b with
      | false => exact next J4 len3 kp3 q4
      | true =>
        refine thnF (pi1.run _ u4 σ3 H4 _ J4 q4) fun _ u5 hx => thnF hx fun _ u6 h6 => ?_
        obtain ⟨it1, fp1, tn1, J1, H6, e1, I6, T1, ti6, f6, W1, ⟨m1, w1⟩, turn1⟩ := h6
        subst e1
        have still1 : ∀ {H' : Hp}, (∀ b ∈ fp1, H' b = none) → ∀ b ∈ fp1, FpOk (X.blk s2 H2 scope ce fp) ([] ++ pinsAt fp u2.heap) H' b := fun nn b hb => ⟨nn b hb, (f6 b hb).2⟩
        have inner : codeAny (model X.prog X.w) X.A (.compLoop (set2 elt tg iter ifs tg1 iter1 ifs1 scope pos) 1 (.ref it1) (.ref l) ce)
            (fun r u => match r with
              | .ok _ => ∃ m, m < n ∧ ∃ i H', Inv (X.blk s2 H2 scope ce fp) [] (wipe σ (own.map (·.2))) H' u ∧ tn i u.heap ∧ (∀ b ∈ fp, H' b = none) ∧ W i m H'
              | .error _ => False) u6 := by
          refine inner_go (fun k u => ∃ j H', Inv (X.blk s2 H2 scope ce fp) ([] ++ pinsAt fp u2.heap) (wipe σ3 vs1) H' u ∧ tn1 j u.heap ∧ (∀ b ∈ fp1, H' b = none) ∧ W1 j k H') (fun k v0 ⟨j, Hj, Ij, tj, nj, wj⟩ => ?_) m1 ⟨0, H6, I6.weak (wipe_length _ _) (fun j d e => (wipe_some e).1), ti6, fun b hb => (f6 b hb).1, w1⟩
          rcases turn1 j k Hj wj with ⟨stop1, nx1⟩ | ⟨go1, Nx1, less1, step1⟩
          · refine thnF (T1.done (X.blk s2 H2 scope ce fp) rfl rfl rfl C.calm j _ v0 (wipe σ3 vs1) Hj (fun _ _ => False) Ij (still1 nj) tj stop1) fun r v1 ⟨hr, J7⟩ => ?_
            subst hr
            exact next J7 (len3.trans (wipe_length σ3 vs1).symm) kp4 nx1
          · refine thnF (T1.item (X.blk s2 H2 scope ce fp) rfl rfl rfl C.calm j _ v0 (wipe σ3 vs1) Hj (fun _ _ => False) Ij (still1 nj) tj go1) fun r v1 ⟨z, hr, h7⟩ => ?_
            subst hr
            refine thnF h7 fun _ v2 ⟨y1, H7, J7, ry1, yl1, ty1, ny1⟩ => ?_
            refine thnF (pg1.run _ v2 (wipe σ3 vs1) H7 y1 z _ (J7.pinned (still1 ny1) (T1.obj _ _ ty1)) ry1 (step1 y1 H7 yl1)) fun _ v3 ⟨σ8, H8, J8, hw8, q8⟩ => ?_
            refine thnF (pt1.run _ v3 σ8 H8 _ J8 q8) fun b1 v4 ⟨H9, J9, q9⟩ => ?_
            have next1 : ∀ {v5 : Shared} {H' : Hp}, Inv (X.blk s2 H2 scope ce fp) (([] ++ pinsAt fp u2.heap) ++ pinsAt fp1 v2.heap) σ8 H' v5 → Nx1 H' → ∃ m, m < k ∧ ∃ j H', Inv (X.blk s2 H2 scope ce fp) ([] ++ pinsAt fp u2.heap) (wipe σ3 vs1) H' v5 ∧ tn1 j v5.heap ∧ (∀ b ∈ fp1, H' b = none) ∧ W1 j m H' := fun {v5 H'} J' nx => by
              obtain ⟨m', lt, w'⟩ := less1 H' nx
              have held : ∀ b ∈ fp1, ∀ o, v2.heap.get? b = some o → v5.heap.get? b = some o ∧ H' b = none := fun b hb o e =>
                let p := J'.pin (b, o) (List.mem_append_right _ (List.mem_append_right _ (mem_pinsAt hb e)))
                ⟨p.1, p.2.1⟩
              refine ⟨m', lt, j + 1, H', J'.unpinned.weak (by rw [← hw8, wipe_length]) (fun j d e => by rw [← hw8] at e; exact (wipe_some e).1), T1.keep _ _ _ ty1 fun b hb o e => (held b hb o e).1, fun b hb => ?_, w'⟩
              obtain ⟨o, e, _⟩ := T1.obj _ _ ty1 b hb
              exact (held b hb o e).2
            cases b1 with
            | false => exact next1 J9 q9
            | true =>
              refine thnF (pe.run _ v4 σ8 H9 _ J9 q9) fun x v5 ⟨xv, H10, J10, rx, o', add, nx⟩ => ?_
              exact add (X.blk s2 H2 scope ce fp) _ _ _ _ _ _ rfl rfl rfl rfl J10 rx fun v6 J11 => next1 J11 nx
        exact start_in inner (T1.self X.A 0 _ _ _ ti6 inner)
  exact PpSet.codeAny_compStart_set loop (T.self X.A 0 _ _ _ t3 loop)
end
end Pyr

set_option Elab.async false
set_option autoImplicit false
set_option linter.all false
set_option maxRecDepth 100000
set_option maxHeartbeats 8000000
/-! sorted({..}) of numbers and texts; comprehensions with two fors as data -/
namespace Pyr
open PySem PySem.Spec PyProof.Rows L2 Evl
def scK : D → Option Key
  | .int i => some (.inl i)
  | .str x => some (.inr x)
  | _ => none
theorem scK_D {d : D} {k : Key} (h : scK d = some k) : d = keyD k := by
  cases d <;> cases h <;> rfl
theorem scK_back (k : Key) : scK (keyD k) = some k := by cases k <;> rfl
theorem rp_key {K : PySem.W.Frag} {G : Hp} {v : V} {d : D} {k : Key} (r : Rp K G v d) (h : scK d = some k) : v = kV k := by
  cases d <;> cases h <;> cases r <;> rfl
def scC (ds : List D) : Bool := ds.all (fun d => (scK d).isSome) && alikeB ds && decide (ds.length ≤ 3000)
def sortM (ds : List D) : Res (List D) := if scC ds then .ok ((uniqD ds).mergeSort (PySem.W.dataLe false id)) else .bad
theorem scC_parts {ds : List D} (h : scC ds = true) : (∀ d ∈ ds, ∃ k, scK d = some k) ∧ PySem.W.AllAlike ds ∧ ds.length ≤ 3000 := by
  unfold scC at h
  simp only [Bool.and_eq_true, decide_eq_true_eq] at h
  exact ⟨fun d hd => Option.isSome_iff_exists.mp (List.all_eq_true.mp h.1.1 d hd), alike_of h.1.2, h.2⟩
theorem sc_keyB {d : D} {k : Key} (h : scK d = some k) : keyB d = true := by
  cases d <;> cases h <;> rfl
/-- the keys of data -/
def keysL (ds : List D) : List Key := ds.filterMap scK
section
variable {X : Cx}
theorem cr_sortedS (C : CtE X) {a : Addr} {ds : List D} {G H : Hp} {Q : VK} (ha : H a = some (scO X.prog X.w a (keysL ds))) (hc : scC ds = true)
    (q : ∀ p vs, H p = none → Rps X.K G vs ((uniqD ds).mergeSort (PySem.W.dataLe false id)) → Q (.ref p) (upd H p (.lst vs))) : wpC X (.builtin "sorted") [.ref a] H Q := by
  intro pins s σ us I rv
  rw [Vals.ref1 rv]
  obtain ⟨kk, al, len⟩ := scC_parts hc
  have kb : keysB ds = true := keysB_of fun d hd => let ⟨k, e⟩ := kk d hd; sc_keyB e
  obtain ⟨L, es, ep, t, R, mem⟩ := (scO_get I ha).ex
  obtain ⟨o, ho, hex, hd⟩ := id R.here
  have few := R.few
  have esz := ent_size R.cont
  refine Calls.call_function_entry kind_sorted plain_sorted entry_sorted (args_sorted1 _) ?_
  unfold Builtin.«sorted»
  refine wpAny_bind (m := checkCount "sorted" 1 1 _) (wpAny_pure ?_)
  refine wpAny_bind (collect_set (A := X.A.in1) (by simpa using I.ok.hd C.calm) ⟨o, ho, hex.1, hd⟩ R.fit (by unfold scanBound; omega) R.ris R.made fun s1 vs kp hz g1 o1 pm => ?_)
  -- the values as keys
  have each : ∀ (us : List Value) (Ls : List Key), us.map (fun u => entK (0, u)) = Ls.map some → PySem.W.EachIs (RVD X.K G) us (Ls.map keyD) := by
    intro us
    induction us with
    | nil =>
      intro Ls e
      cases Ls with
      | nil => exact .nil
      | cons _ _ => cases e
    | cons u us ih =>
      intro Ls e
      cases Ls with
      | nil => cases e
      | cons k Ls =>
        rw [List.map_cons, List.map_cons] at e
        injection e with e1 e2
        refine .cons ⟨kV k, ?_, by cases k <;> constructor⟩ (ih Ls e2)
        rcases keyIs_shape ((entK_is (P := X.prog) (w := X.w) (0, u) k).mpr e1) with ⟨i, t, rfl, eu⟩ | ⟨x, t, rfl, eu⟩
        · exact ⟨t, eu⟩
        · exact ⟨t, eu⟩
  have vals : (es.toList.map (·.2)).map (fun u => entK (0, u)) = L.map some := by
    rw [List.map_map, ← R.cont]
    rfl
  obtain ⟨L1, pL, e1⟩ := perm_map (some : Key → Option Key) ((pm.map fun u => entK (0, u)).trans (by rw [vals])) L rfl
  have b1 := each vs L1 e1
  generalize hbs : L1.map keyD = bs at b1
  have bmem : ∀ d, d ∈ bs ↔ d ∈ ds := fun d => by
    rw [← hbs, List.mem_map]
    constructor
    · rintro ⟨k, hk, rfl⟩
      obtain ⟨d', hd', e⟩ := List.mem_filterMap.mp ((mem k).mp (pL.mem_iff.mp hk))
      rw [← scK_D e]
      exact hd'
    · intro h
      obtain ⟨k, e⟩ := kk d h
      exact ⟨k, pL.mem_iff.mpr ((mem k).mpr (List.mem_filterMap.mpr ⟨d, h, e⟩)), (scK_D e).symm⟩
  have bnd : bs.Nodup := by
    rw [← hbs]
    refine List.pairwise_map.mpr ((pL.nodup_iff.mpr R.once).imp fun {x y} ne e => ne ?_)
    have := congrArg scK e
    rw [scK_back, scK_back] at this
    exact Option.some.inj this
  have bu : bs.Perm (uniqD ds) := (List.perm_ext_iff_of_nodup bnd (uniq_nodup ds)).mpr fun d => (bmem d).trans (uniq_mem kb).symm
  have al2 : PySem.W.AllAlike bs := fun d hd e he => al d ((bmem d).mp hd) e ((bmem e).mp he)
  have kind : ∀ d ∈ bs, ∃ k, scK d = some k := fun d hd => kk d ((bmem d).mp hd)
  have so2 : PySem.W.Sortable bs := .inr fun d hd => by
    obtain ⟨k, e⟩ := kind d hd
    refine ⟨fun z => ?_, fun xs z => ?_⟩ <;> (rw [z] at e; cases e)
  have srt : bs.mergeSort (PySem.W.dataLe false id) = (uniqD ds).mergeSort (PySem.W.dataLe false id) := by
    refine sort_unique (fun x hx y hy => al2 x ((List.mergeSort_perm _ _).mem_iff.mp hx) y ((List.mergeSort_perm _ _).mem_iff.mp hy)) (fun x hx => let ⟨k, e⟩ := kind x ((List.mergeSort_perm _ _).mem_iff.mp hx); keyB_noB x (sc_keyB e)) ((List.mergeSort_perm _ _).trans (bu.trans (List.mergeSort_perm _ _).symm)) ?_ ?_
    · exact List.pairwise_mergeSort dle_trans dle_total _
    · exact List.pairwise_mergeSort dle_trans dle_total _
  have blen : bs.length = vs.length := b1.length.symm
  have vlen : vs.length < 4000 := by rw [pm.length_eq, List.length_map, Array.length_toList, esz]; exact few
  refine wpAny_bind (wpAny_newList ?_ (by rw [sizeLine_eq]; omega))
  have hoL : (s1.heap.push (seqObj "list" vs.toArray 0)).get? s1.heap.objs.size = some (seqObj "list" vs.toArray 0) := Heap.get?_push_size _ rfl
  have er : PySem.W.EachIs (fun u d => ∃ as, Reads (PySem.W.sortingHeap (s1.heap.push (seqObj "list" vs.toArray 0)) s1.heap.objs.size vs) u d as) vs bs := (PySem.W.each_mem b1).mono fun u d ⟨⟨v, r1, r2⟩, hb⟩ => by
    obtain ⟨k, e⟩ := kind d hb
    have ev := rp_key r2 e
    have ed := scK_D e
    subst ev ed
    cases k with
    | inl i =>
      obtain ⟨t, rfl⟩ := (show ∃ t, u = Value.int i t from r1)
      exact ⟨_, .int i t⟩
    | inr x =>
      obtain ⟨t, rfl⟩ := (show ∃ t, u = Value.str x t from r1)
      exact ⟨_, .str x t⟩
  refine wpAny_bind (wpAny_holding ?_)
  refine wpAny_call_entry PyProof.Rows.slot_list_sort ⟨_, hoL, rfl⟩ PyProof.Rows.entry_list_sort (PySem.W.list_sort_vals (s := { s1 with heap := s1.heap.push (seqObj "list" vs.toArray 0) }) (κ := PySem.W.dataKind (PySem.W.sortingHeap (s1.heap.push (seqObj "list" vs.toArray 0)) s1.heap.objs.size vs) bs) hoL (PySem.W.SortsAt.data (s := { s1 with heap := PySem.W.sortingHeap (s1.heap.push (seqObj "list" vs.toArray 0)) s1.heap.objs.size vs }) er al2 so2 ?_) (by rw [sizeLine_eq]; omega) ⟨.none, rfl, ?_⟩) (PyProof.Rows.args_list_sort _)
  · intro d hd
    have h2 := C.un
    obtain ⟨k, e⟩ := kind d hd
    rw [scK_D e]
    have : (keyD k).depth = 0 := by cases k <;> rfl
    simp only [Around.in1_units]
    omega
  · generalize hout : PySem.W.sortVals (PySem.W.dataKind (PySem.W.sortingHeap (s1.heap.push (seqObj "list" vs.toArray 0)) s1.heap.objs.size vs) bs) false vs vs = out
    have hO : PySem.W.EachIs (RVD X.K G) out (bs.mergeSort (PySem.W.dataLe false id)) := by
      have z := PySem.W.sortVals_data (enc := id) (h' := PySem.W.sortingHeap (s1.heap.push (seqObj "list" vs.toArray 0)) s1.heap.objs.size vs) false b1 er (by rw [List.map_id]; exact al2)
      rw [List.map_id, hout] at z
      exact z
    rw [srt] at hO
    obtain ⟨ws, rw', rp⟩ := rvd_each hO
    obtain ⟨c, hc'⟩ := sortedHeap_at (vs := vs) (out := out.toArray) hoL
    have old : ∀ b o, s.heap.get? b = some o → (sortedHeap (s1.heap.push (seqObj "list" vs.toArray 0)) s1.heap.objs.size vs out.toArray).get? b = some o := fun b o e => by
      have e1 := kp b o e
      have lt := Heap.lt_size e1
      rw [sortedHeap_old (Nat.ne_of_lt lt) (by rw [Heap.size_push]; exact Nat.lt_succ_of_lt lt)]
      exact Heap.get?_push_of_some _ e1
    have ul : (uniqD ds).length < 4000 := by
      rw [← bu.length_eq]
      omega
    have wl : ws.length ≤ sizeLine := by
      rw [rp.len, List.length_mergeSort, sizeLine_eq]
      omega
    have hn : H s1.heap.objs.size = none := I.hok.fresh hz
    refine wpAny_pure ⟨_, rfl, ?_⟩
    have J : Inv X pins σ (upd H s1.heap.objs.size (.lst ws)) { s with heap := sortedHeap (s1.heap.push (seqObj "list" vs.toArray 0)) s1.heap.objs.size vs out.toArray, gens := s1.gens, drawn := s1.drawn, toks := s1.toks } :=
      I.call (ch := []) (Un.laid old hz hn) (I.hok.laid old hz ⟨wl, out, c, rw', hc'⟩) (by rw [g1]; exact I.bare) (fun _ z => nomatch z)
    rw [← o1] at J
    exact ⟨.ref s1.heap.objs.size, _, J, rfl, q _ ws hn rp⟩
end
end Pyr

set_option Elab.async false
set_option autoImplicit false
set_option linter.all false
set_option maxRecDepth 100000
set_option maxHeartbeats 8000000
/-! sorted({e for a in b if .. for c in d if ..}) as data -/
namespace Pyr
open PySem PySem.Spec PyProof.Rows L2 Evl
/-- the items of a comprehension with two fors -/
def compF2 (t : Tg) (tt : En → Res Bool) (fi1 : En → Res (List D)) (t1 : Tg) (tt1 : En → Res Bool) (fe : En → Res D) (vs1 : List Nat) (ρ : En) : List D → Res (List D)
  | [] => .ok []
  | d :: ds => (tgE t d ρ).bind fun ρ1 => (noX (tt ρ1)).bind fun b => (if b then (noX (fi1 ρ1)).bind fun es => okL es.length (compF t1 tt1 fe (wipeE ρ1 vs1) es) else .ok []).bind fun ys => (compF2 t tt fi1 t1 tt1 fe vs1 ρ ds).bind fun zs => .ok (ys ++ zs)
def lComp2 (own vs1 : List Nat) (t : Tg) (fi : En → Res (List D)) (tt : En → Res Bool) (t1 : Tg) (fi1 : En → Res (List D)) (tt1 : En → Res Bool) (fe : En → Res D) : En → Res (List D) := fun ρ => (fi ρ).bind fun ds => okL ds.length (compF2 t tt fi1 t1 tt1 fe vs1 (wipeE ρ own) ds)
def lSort2 (own vs1 : List Nat) (t : Tg) (fi : En → Res (List D)) (tt : En → Res Bool) (t1 : Tg) (fi1 : En → Res (List D)) (tt1 : En → Res Bool) (fe : En → Res D) : En → Res (List D) := fun ρ => (lComp2 own vs1 t fi tt t1 fi1 tt1 fe ρ).bind sortM
def lSort1 (own : List Nat) (t : Tg) (fi : En → Res (List D)) (tt : En → Res Bool) (fe : En → Res D) : En → Res (List D) := fun ρ => (lComp own t fi tt fe ρ).bind sortM
theorem sortM_inv {total zs : List D} (h : sortM total = .ok zs) : scC total = true ∧ zs = (uniqD total).mergeSort (PySem.W.dataLe false id) := by
  unfold sortM at h
  split at h
  · rename_i hc
    cases h
    exact ⟨hc, rfl⟩
  · cases h
theorem bind_inv {α β : Type} {r : Res α} {k : α → Res β} {b : β} (h : r.bind k = .ok b) : ∃ a, r = .ok a ∧ k a = .ok b := by
  cases r with
  | ok a => exact ⟨a, rfl, h⟩
  | exc c fs => cases h
  | bad => cases h
theorem noX_inv {α : Type} {r : Res α} {a : α} (h : noX r = .ok a) : r = .ok a := by
  cases r with
  | ok b => exact h
  | exc c fs => cases h
  | bad => cases h
theorem keysL_app (xs ys : List D) : keysL (xs ++ ys) = keysL xs ++ keysL ys := by
  unfold keysL
  rw [List.filterMap_append]
theorem gMany_gen {K : PySem.W.Frag} {G H : Hp} {Q : L2.St → Hp → Prop} {own : List Nat} {P : En → L2.St → Prop} (step : ∀ (ρ : En) (σ : L2.St) (i : Nat) (v : V) (d : D), P ρ σ → Rp K G v d → P (ρ.set i (some d)) (σ.set i (some v))) :
    ∀ (is : List Nat) (ds : List D) (vs : List V) (ρ : En) (σ : L2.St), (∀ i ∈ is, i ∈ own) → ds.length = is.length → Rps K G vs ds → P ρ σ → (∀ σ', P (setsE is ds ρ) σ' → wipe σ' own = wipe σ own → Q σ' H) → gMany is vs σ H Q
  | [], [], _, ρ, σ, _, _, .nil, re, k => ⟨rfl, k σ re rfl⟩
  | i :: is, d :: ds, _, ρ, σ, ho, hl, .cons r rs, re, k => by
    refine ⟨_, _, rfl, gMany_gen step is ds _ (ρ.set i (some d)) (σ.set i (some _)) (fun j hj => ho j (List.mem_cons_of_mem _ hj)) (by simpa using hl) rs (step _ _ _ _ _ re r) fun σ' h1 h2 => k σ' h1 ?_⟩
    rw [h2, wipe_set (ho i List.mem_cons_self)]
  | [], _ :: _, _, _, _, _, hl, _, _, _ => by simp at hl
  | _ :: _, [], _, _, _, _, hl, _, _, _ => by simp at hl
theorem gTg_gen {TS : TabList} {K : PySem.W.Frag} {G H : Hp} {Q : L2.St → Hp → Prop} {own : List Nat} {P : En → L2.St → Prop} {t : Tg} {d : D} {v : V} {ρ ρ' : En} {σ : L2.St} (step : ∀ (ρ : En) (σ : L2.St) (i : Nat) (v : V) (d : D), P ρ σ → Rp K G v d → P (ρ.set i (some d)) (σ.set i (some v))) (ok : Ok0 TS G H) (ho : ∀ i ∈ t.all, i ∈ own)
    (r : Rp K G v d) (re : P ρ σ) (e : tgE t d ρ = .ok ρ') (k : ∀ σ', P ρ' σ' → wipe σ' own = wipe σ own → Q σ' H) : gTg K t v σ H Q := by
  cases t with
  | nm i =>
    cases e
    exact k _ (step _ _ _ _ _ re r) (wipe_set (ho i (by simp [Tg.all])))
  | tp is =>
    cases r <;> try cases e
    rename_i a xs ds h rs
    have e : (if ds.length = is.length then Res.ok (setsE is ds ρ) else .bad) = .ok ρ' := e
    split at e
    · rename_i hl
      cases e
      exact ⟨a, xs, rfl, ex_t ok.le h, by rw [rs.len, hl], gMany_gen step is ds xs ρ σ ho hl rs re k⟩
    · cases e
section
variable {TS : TabList} {X : Cx} {l : Addr} {G1 H1 : Hp}
/-- the set at l while it is filled: the data pre are in it -/
structure Hold (TS : TabList) (X : Cx) (G1 H1 : Hp) (l : Addr) (pre : List D) (G H : Hp) : Prop where
  gr : Gr TS G1 H1 G H
  out : G l = none
  at' : H l = some (scO X.prog X.w l (keysL pre))
theorem Hold.grow {pre : List D} {G H G' H' : Hp} (x : Hold TS X G1 H1 l pre G H) (g : Gr TS G H G' H') : Hold TS X G1 H1 l pre G' H' := by
  refine ⟨x.gr.trans g, ?_, g.h.same l _ x.at' fun _ e => nomatch e⟩
  cases q : G' l with
  | none => rfl
  | some w =>
    rcases g.nw l (by rw [q]; simp) with c | c
    · exact absurd x.out c
    · rw [x.at'] at c
      cases c
theorem Hold.put {pre : List D} {d : D} {k : Key} {G H : Hp} (x : Hold TS X G1 H1 l pre G H) (hk : scK d = some k) (hD : H1 l = none) : Hold TS X G1 H1 l (pre ++ [d]) G (upd H l (scO X.prog X.w l (keysL pre ++ [k]))) := by
  have gg := x.gr
  refine ⟨⟨gg.g, ⟨fun b w hb n => ?_, fun b hb => gg.h.old b (upd_none hb)⟩, gg.nw, ⟨fun b w hb => ?_, fun P hP => ?_, gg.ok.nt⟩⟩, x.out, ?_⟩
  · rw [upd_ne (ne_of_none hb hD)]
    exact gg.h.same b w hb n
  · rw [upd_ne (ne_of_none hb x.out)]
    exact gg.ok.le b w hb
  · obtain ⟨ps, q1, q2⟩ := gg.ok.tb P hP
    refine ⟨ps, ?_, q2⟩
    rw [upd_ne fun e => ?_]
    · exact q1
    · rw [e, x.at'] at q1
      cases q1
  · rw [keysL_app, show keysL [d] = [k] by unfold keysL; rw [List.filterMap_cons_some hk]; rfl]
    exact upd_same
end
section
variable {TS : TabList} {X : Cx} {tg iter tg1 iter1 elt : Expr} {fi fi1 : En → Res (List D)} {tt tt1 : En → Res Bool} {fe : En → Res D} {ifs ifs1 : List Expr} {pos : Pos} {t t1 : Tg} {scope : Scope} {own : List (Str × Nat)} {vs1 : List Nat}
def blkI (X : Cx) (scope : Scope) (tg1 iter1 : Expr) : TI := fun σ H R => ∀ (s : Shared) (H0 : Hp) (C : Addr) (cl : List (Str × Addr)) (fp : List Addr), wpIt (X.blk s H0 scope (compEnvC scope cl C X.env) fp) tg1 iter1 σ H R
theorem kc2_core {W : WX} {ρ : En} {σ : L2.St} {G H : Hp} {Q QQ : VK} (hi : DI TS X tg iter fi) (ho : ∀ i ∈ t.all, i ∈ own.map (·.2)) (ho1 : ∀ i ∈ t1.all, i ∈ vs1)
    (ht : ∀ (s : Shared) (H : Hp) (C : Addr) (cl : List (Str × Addr)) (fp : List Addr), DTs TS (X.blk s H scope (compEnvC scope cl C X.env) fp) ifs tt)
    (hi1 : ∀ (s : Shared) (H : Hp) (C : Addr) (cl : List (Str × Addr)) (fp : List Addr), DI TS (X.blk s H scope (compEnvC scope cl C X.env) fp) tg1 iter1 fi1)
    (ht1 : ∀ (s : Shared) (H : Hp) (C : Addr) (cl : List (Str × Addr)) (fp : List Addr), DTs TS (X.blk s H scope (compEnvC scope cl C X.env) fp) ifs1 tt1)
    (he : ∀ (s : Shared) (H : Hp) (C : Addr) (cl : List (Str × Addr)) (fp : List Addr), DE TS (X.blk s H scope (compEnvC scope cl C X.env) fp) elt fe)
    (tk : Takes X W) (re : RpE TS X.K G H ρ σ) (ok : Ok0 TS G H) (post : PostG (RelL X.K) TS X W σ G H (lSort2 (own.map (·.2)) vs1 t fi tt t1 fi1 tt1 fe ρ) Q)
    (fin : ∀ (l : Addr) (ds : List D) (G2 H2 : Hp), Gr TS G H G2 H2 → H2 l = some (scO X.prog X.w l (keysL ds)) → scC ds = true → PostG (RelL X.K) TS X W σ G2 H2 (.ok ((uniqD ds).mergeSort (PySem.W.dataLe false id))) Q → QQ (.ref l) H2) :
    tKg2 X (fun l => scO X.prog X.w l []) (wpIt X tg iter) (gTg X.K t) (blkT X scope ifs) (blkI X scope tg1 iter1) (gTg X.K t1) (blkT X scope ifs1) (blkE X scope elt) (own.map (·.2)) vs1 σ H QQ := by
  have post : PostG (RelL X.K) TS X W σ G H ((fi ρ).bind fun ds => (okL ds.length (compF2 t tt fi1 t1 tt1 fe vs1 (wipeE ρ (own.map (·.2))) ds)).bind sortM) Q := by
    have e : lSort2 (own.map (·.2)) vs1 t fi tt t1 fi1 tt1 fe ρ = (fi ρ).bind fun ds => (okL ds.length (compF2 t tt fi1 t1 tt1 fe vs1 (wipeE ρ (own.map (·.2))) ds)).bind sortM := by
      unfold lSort2 lComp2
      cases fi ρ <;> rfl
    rw [e] at post
    exact post
  refine bindP (wp := fun R => wpIt X tg iter σ H R) back_L (fun Q' p => hi W ρ σ G H Q' tk re ok p) post fun J ds G1 H1 _ g1 wk p => ?_
  cases er : (okL ds.length (compF2 t tt fi1 t1 tt1 fe vs1 (wipeE ρ (own.map (·.2))) ds)).bind sortM with
  | exc c fs =>
    exfalso
    have no2 : ∀ (ρ : En) (ds : List D), ¬ compF2 t tt fi1 t1 tt1 fe vs1 ρ ds = .exc c fs := by
      intro ρ ds
      induction ds with
      | nil => intro h; cases h
      | cons d ds ih =>
        intro h
        have h : ((tgE t d ρ).bind fun ρ1 => (noX (tt ρ1)).bind fun b => (if b then (noX (fi1 ρ1)).bind fun es => okL es.length (compF t1 tt1 fe (wipeE ρ1 vs1) es) else .ok []).bind fun ys => (compF2 t tt fi1 t1 tt1 fe vs1 ρ ds).bind fun zs => .ok (ys ++ zs)) = .exc c fs := h
        cases h1 : tgE t d ρ with
        | exc c' fs' => exact tgE_exc h1
        | bad => rw [h1] at h; cases h
        | ok ρ1 =>
        rw [h1] at h
        have h : ((noX (tt ρ1)).bind fun b => (if b then (noX (fi1 ρ1)).bind fun es => okL es.length (compF t1 tt1 fe (wipeE ρ1 vs1) es) else .ok []).bind fun ys => (compF2 t tt fi1 t1 tt1 fe vs1 ρ ds).bind fun zs => .ok (ys ++ zs)) = .exc c fs := h
        cases h2 : noX (tt ρ1) with
        | exc c' fs' => exact noX_exc h2
        | bad => rw [h2] at h; cases h
        | ok b =>
        rw [h2] at h
        have h : ((if b then (noX (fi1 ρ1)).bind fun es => okL es.length (compF t1 tt1 fe (wipeE ρ1 vs1) es) else .ok []).bind fun ys => (compF2 t tt fi1 t1 tt1 fe vs1 ρ ds).bind fun zs => .ok (ys ++ zs)) = .exc c fs := h
        cases h3 : (if b then (noX (fi1 ρ1)).bind fun es => okL es.length (compF t1 tt1 fe (wipeE ρ1 vs1) es) else .ok []) with
        | exc c' fs' =>
          cases b with
          | false => cases h3
          | true =>
            have h3 : ((noX (fi1 ρ1)).bind fun es => okL es.length (compF t1 tt1 fe (wipeE ρ1 vs1) es)) = .exc c' fs' := h3
            cases h4 : noX (fi1 ρ1) with
            | exc c' fs' => exact noX_exc h4
            | bad => rw [h4] at h3; cases h3
            | ok es =>
              rw [h4] at h3
              have h3 : okL es.length (compF t1 tt1 fe (wipeE ρ1 vs1) es) = .exc c' fs' := h3
              unfold okL at h3
              split at h3
              · exact compF_exc es h3
              · cases h3
        | bad => rw [h3] at h; cases h
        | ok ys =>
          rw [h3] at h
          have h : ((compF2 t tt fi1 t1 tt1 fe vs1 ρ ds).bind fun zs => Res.ok (ys ++ zs)) = .exc c fs := h
          cases h4 : compF2 t tt fi1 t1 tt1 fe vs1 ρ ds with
          | exc c' fs' =>
            rw [h4] at h
            cases h
            exact ih h4
          | bad => rw [h4] at h; cases h
          | ok zs => rw [h4] at h; cases h
    cases eo : okL ds.length (compF2 t tt fi1 t1 tt1 fe vs1 (wipeE ρ (own.map (·.2))) ds) with
    | exc c' fs' =>
      rw [eo] at er
      cases er
      unfold okL at eo
      split at eo
      · exact no2 _ _ eo
      · cases eo
    | bad => rw [eo] at er; cases er
    | ok total =>
      rw [eo] at er
      have er : sortM total = .exc c fs := er
      unfold sortM at er
      split at er <;> cases er
  | bad =>
    rw [er] at p
    exact p.elim
  | ok zs =>
  rw [er] at p
  obtain ⟨total, eo, es⟩ := bind_inv er
  obtain ⟨hlim, ht0⟩ := okL_inv eo
  obtain ⟨hsc, rfl⟩ := sortM_inv es
  obtain ⟨kk, _, small⟩ := scC_parts hsc
  intro l hD
  have reW : ∀ {G' H' : Hp}, Gr TS G1 H1 G' H' → RpE TS X.K G' H' (wipeE ρ (own.map (·.2))) (wipe σ (own.map (·.2))) := fun e => ((re.mono g1).mono e).wipe _
  generalize hρ : wipeE ρ (own.map (·.2)) = ρ0 at ht0 reW
  refine ⟨fun i m H => m = ds.length - i ∧ i ≤ ds.length ∧ ∃ Gi pre rest, Hold TS X G1 H1 l pre Gi H ∧ compF2 t tt fi1 t1 tt1 fe vs1 ρ0 (ds.drop i) = .ok rest ∧ pre ++ rest = total,
    ⟨ds.length, by simp, Nat.zero_le _, G1, [], total, ⟨Gr.own g1.ok hD, fresh_back g1.ok.le hD, upd_same⟩, by rw [List.drop_zero]; exact ht0, rfl⟩, ?_⟩
  rintro i m H2 ⟨rfl, hi2, Gi, pre, rest, ho2, hr, ht2⟩
  obtain ⟨w1, w2⟩ := wk Gi H2 ho2.gr.g ho2.gr.ok
  by_cases hlt : i < ds.length
  · have hx : ds[i]? = some ds[i] := List.getElem?_eq_getElem hlt
    rw [List.drop_eq_getElem_cons hlt] at hr
    obtain ⟨h1, h2⟩ := w1 i _ hx
    refine .inr ⟨h1, fun H' => ∃ Gi pre rest, Hold TS X G1 H1 l pre Gi H' ∧ compF2 t tt fi1 t1 tt1 fe vs1 ρ0 (ds.drop (i + 1)) = .ok rest ∧ pre ++ rest = total, fun H' h => ⟨ds.length - (i + 1), by omega, rfl, hlt, h⟩, fun v H' y => ?_⟩
    obtain ⟨G', g, r⟩ := h2 v H' y
    obtain ⟨ρ1, e1, hr⟩ := bind_inv hr
    obtain ⟨b, e2, hr⟩ := bind_inv hr
    obtain ⟨ys, e3, hr⟩ := bind_inv hr
    obtain ⟨zs, e4, hr⟩ := bind_inv hr
    cases hr
    have ho3 := ho2.grow g
    refine gTg_gen (P := fun ρ σ => ∀ {G'' H'' : Hp}, Gr TS G1 H1 G'' H'' → Ex G' G'' → RpE TS X.K G'' H'' ρ σ) (fun ρ σ i v d h r G'' H'' a b => (h a b).set (r.mono b)) g.ok ho r (fun a _ => reW a) e1 fun σ2 re2 hw => ?_
    rw [wipe_wipe] at hw
    refine ⟨hw, fun s' H0' C' cl' fp' => ?_⟩
    refine ht s' H0' C' cl' fp' (fun _ _ _ _ => False) ρ1 σ2 G' H' _ takes0 (re2 ho3.gr (Ex.refl _)) g.ok ?_
    rw [noX_inv e2]
    intro b' G3 H3 g3 eb
    subst eb
    have ho4 := ho3.grow g3
    cases b' with
    | false =>
      cases e3
      exact iteF ⟨G3, pre, zs, ho4, e4, ht2⟩
    | true =>
    obtain ⟨es, e5, e6⟩ := bind_inv (show ((noX (fi1 ρ1)).bind fun es => okL es.length (compF t1 tt1 fe (wipeE ρ1 vs1) es)) = .ok ys from e3)
    obtain ⟨hl6, e6⟩ := okL_inv e6
    refine iteT fun s' H0' C' cl' fp' => ?_
    refine hi1 s' H0' C' cl' fp' (fun _ _ _ _ => False) ρ1 σ2 G3 H3 _ takes0 (re2 ho4.gr g3.g) g3.ok ?_
    rw [noX_inv e5]
    intro J1 G6 H6 g6 wk1
    have ho6 := ho4.grow g6
    refine ⟨fun j k H => k = es.length - j ∧ j ≤ es.length ∧ ∃ Gj pre1 rest1, Hold TS X G1 H1 l pre1 Gj H ∧ Ex G6 Gj ∧ compF t1 tt1 fe (wipeE ρ1 vs1) (es.drop j) = .ok rest1 ∧ pre1 ++ rest1 = pre ++ ys,
      ⟨es.length, by simp, Nat.zero_le _, G6, pre, ys, ho6, Ex.refl _, by rw [List.drop_zero]; exact e6, rfl⟩, ?_⟩
    rintro j k H7 ⟨rfl, hj2, Gj, pre1, rest1, ho7, x7, hr7, ht7⟩
    obtain ⟨w3, w4⟩ := wk1 Gj H7 x7 ho7.gr.ok
    by_cases hjt : j < es.length
    · have hx7 : es[j]? = some es[j] := List.getElem?_eq_getElem hjt
      rw [List.drop_eq_getElem_cons hjt] at hr7
      obtain ⟨h3, h4⟩ := w3 j _ hx7
      refine .inr ⟨h3, fun H' => ∃ Gj pre1 rest1, Hold TS X G1 H1 l pre1 Gj H' ∧ Ex G6 Gj ∧ compF t1 tt1 fe (wipeE ρ1 vs1) (es.drop (j + 1)) = .ok rest1 ∧ pre1 ++ rest1 = pre ++ ys, fun H' h => ⟨es.length - (j + 1), by omega, rfl, hjt, h⟩, fun v7 H8 y7 => ?_⟩
      obtain ⟨G8, g8, r8⟩ := h4 v7 H8 y7
      obtain ⟨ρ2, e7, hr7⟩ := bind_inv hr7
      obtain ⟨b1, e8, hr7⟩ := bind_inv hr7
      have ho8 := ho7.grow g8
      have x8 : Ex G' G8 := ((g3.g.trans g6.g).trans x7).trans g8.g
      refine gTg_ok g8.ok ho1 r8 ((re2 ho8.gr x8).wipe vs1) e7 fun σ3 re3 hw3 => ?_
      rw [wipe_wipe] at hw3
      refine ⟨hw3, fun s' H0' C' cl' fp' => ?_⟩
      refine ht1 s' H0' C' cl' fp' (fun _ _ _ _ => False) ρ2 σ3 G8 H8 _ takes0 re3 g8.ok ?_
      rw [noX_inv e8]
      intro b2 G9 H9 g9 eb2
      subst eb2
      have ho9 := ho8.grow g9
      cases b2 with
      | false => exact iteF ⟨G9, pre1, rest1, ho9, (x7.trans g8.g).trans g9.g, hr7, ht7⟩
      | true =>
      refine iteT fun s' H0' C' cl' fp' => ?_
      obtain ⟨yd, e9, hr7⟩ := bind_inv (show ((noX (fe ρ2)).bind fun y => (compF t1 tt1 fe (wipeE ρ1 vs1) (es.drop (j + 1))).bind fun ys => .ok (y :: ys)) = .ok rest1 from hr7)
      obtain ⟨rest2, e10, hr7⟩ := bind_inv hr7
      cases hr7
      refine he s' H0' C' cl' fp' (fun _ _ _ _ => False) ρ2 σ3 G9 H9 _ takes0 (re3.mono g9) g9.ok ?_
      rw [noX_inv e9]
      intro yv G10 H10 g10 ry
      have ho10 := ho9.grow g10
      have tot : pre1 ++ [yd] ++ rest2 ++ zs = total := by
        rw [← ht2, ← List.append_assoc pre, ← ht7, List.append_assoc pre1]
        rfl
      obtain ⟨k, hk⟩ := kk yd (by rw [← tot]; exact List.mem_append_left _ (List.mem_append_left _ (List.mem_append_right _ List.mem_cons_self)))
      have ev := rp_key ry hk
      subst ev
      have room : (keysL pre1).length + 1 < 4000 := by
        have a1 : (keysL pre1).length ≤ pre1.length := List.length_filterMap_le _ _
        have a2 := congrArg List.length tot
        simp only [List.length_append, List.length_cons, List.length_nil] at a2
        omega
      exact ⟨_, addOk_sc ho10.at' room, G10, pre1 ++ [yd], rest2, ho10.put hk hD, ((x7.trans g8.g).trans g9.g).trans g10.g, e10, by rw [List.append_assoc]; exact ht7⟩
    · have e : j = es.length := by omega
      subst e
      rw [List.drop_length] at hr7
      cases hr7
      rw [List.append_nil] at ht7
      subst ht7
      exact .inl ⟨w4, Gj, pre ++ ys, zs, ho7, e4, by rw [List.append_assoc]; exact ht2⟩
  · have e : i = ds.length := by omega
    subst e
    rw [List.drop_length] at hr
    cases hr
    rw [List.append_nil] at ht2
    subst ht2
    refine .inl ⟨w2, fin l pre Gi H2 (g1.trans ho2.gr) ho2.at' hsc ?_⟩
    intro v G5 H5 g5 r5
    exact p v G5 H5 (ho2.gr.trans g5) (back_L H1 H2 G5 H5 v _ (fun a h => ho2.gr.h.old a h) r5)
end
end Pyr

set_option Elab.async false
set_option autoImplicit false
set_option linter.all false
set_option maxRecDepth 100000
set_option maxHeartbeats 8000000
namespace Pyr
open PySem PySem.Spec PyProof.Rows L2 Evl
section
variable {TS : TabList} {X : Cx} {tg iter tg1 iter1 elt : Expr} {fi fi1 : En → Res (List D)} {tt tt1 : En → Res Bool} {fe : En → Res D} {ifs ifs1 : List Expr} {pos : Pos} {t t1 : Tg} {scope : Scope} {own : List (Str × Nat)} {vs1 : List Nat}
theorem dl_sorted2 (C : CtE X) {p' pos' : Pos} (hg' : Gl X "sorted") (hm : X.mg "sorted" = none) (hv : bootBuiltins "sorted" = some (.builtin "sorted")) (hi : DI TS X tg iter fi) (ok : BlkOk X.N X.env.scope scope own) (ho : ∀ i ∈ t.all, i ∈ own.map (·.2)) (ho1 : ∀ i ∈ t1.all, i ∈ vs1) (hvs : ∀ i ∈ vs1, i ∈ own.map (·.2))
    (hg : ∀ (s : Shared) (H : Hp) (C : Addr) (cl : List (Str × Addr)) (fp : List Addr), PG (X.blk s H scope (compEnvC scope cl C X.env) fp) tg (gTg X.K t))
    (ht : ∀ (s : Shared) (H : Hp) (C : Addr) (cl : List (Str × Addr)) (fp : List Addr), DTs TS (X.blk s H scope (compEnvC scope cl C X.env) fp) ifs tt)
    (hi1 : ∀ (s : Shared) (H : Hp) (C : Addr) (cl : List (Str × Addr)) (fp : List Addr), DI TS (X.blk s H scope (compEnvC scope cl C X.env) fp) tg1 iter1 fi1)
    (hg1 : ∀ (s : Shared) (H : Hp) (C : Addr) (cl : List (Str × Addr)) (fp : List Addr), PG (X.blk s H scope (compEnvC scope cl C X.env) fp) tg1 (gTg X.K t1))
    (ht1 : ∀ (s : Shared) (H : Hp) (C : Addr) (cl : List (Str × Addr)) (fp : List Addr), DTs TS (X.blk s H scope (compEnvC scope cl C X.env) fp) ifs1 tt1)
    (he : ∀ (s : Shared) (H : Hp) (C : Addr) (cl : List (Str × Addr)) (fp : List Addr), DE TS (X.blk s H scope (compEnvC scope cl C X.env) fp) elt fe) (hs : ∀ x, foldedSetIterable iter X.env x = pure x := by intro _; rfl) (hs1 : ∀ env x, foldedSetIterable iter1 env x = pure x := by intro _ _; rfl)
    (hst : starEach [set2 elt tg iter ifs tg1 iter1 ifs1 scope pos] X.env = (false, eval (set2 elt tg iter ifs tg1 iter1 ifs1 scope pos) X.env) :: starEach [] X.env := by rfl) (hpl : (backTo pos' (starEach [] X.env)).any (·.1) = false := by rfl) :
    DL TS X (.Call (.Name "sorted" p') [set2 elt tg iter ifs tg1 iter1 ifs1 scope pos] [] pos') (lSort2 (own.map (·.2)) vs1 t fi tt t1 fi1 tt1 fe) := by
  refine ⟨?_⟩
  intro W ρ σ G H Q tk re k post
  refine wpE_of (pe_callB (cr_wp _) hg' hm hv (pa_cons (pe_kg2 (o0 := fun l => scO X.prog X.w l []) (wi := wpIt X tg iter) (g := gTg X.K t) (tt := blkT X scope ifs) (wi1 := blkI X scope tg1 iter1) (g1 := gTg X.K t1) (tt1 := blkT X scope ifs1) (te := blkE X scope elt) (vs1 := vs1) C (fun H h => scO_ok (scS_fresh X.w h)) (pi_wp X tg iter) ok hvs hg (fun s H C cl fp => ⟨fun pins s1 σ H1 Q I h => h s H C cl fp pins s1 I⟩)
    (fun s H C cl fp => ⟨fun pins s1 σ H1 Q I h => h s H C cl fp pins s1 I⟩) hg1 (fun s H C cl fp => ⟨fun pins s1 σ H1 Q I h => h s H C cl fp pins s1 I⟩) hs1 (fun s H C cl fp => ⟨fun pins s1 σ H1 Q I h => h s H C cl fp pins s1 I⟩) hs) pa_nil hst) (by decide) (by decide) hst hpl) ?_
  show tKg2 X (fun l => scO X.prog X.w l []) (wpIt X tg iter) (gTg X.K t) (blkT X scope ifs) (blkI X scope tg1 iter1) (gTg X.K t1) (blkT X scope ifs1) (blkE X scope elt) (own.map (·.2)) vs1 σ H (fun v H1 => wpC X (.builtin "sorted") [v] H1 Q)
  refine kc2_core hi ho ho1 ht hi1 ht1 he tk re k post fun l ds G2 H2 g2 hl hsc p => ?_
  refine cr_sortedS (G := G2) C hl hsc fun q vs hq rs => ?_
  exact p (.ref q) G2 _ (Gr.own g2.ok hq) ⟨q, vs, rfl, hq, fresh_back g2.ok.le hq, upd_same, rs⟩
end
/-! ### running -/
theorem compF2_en {α β : Type} {t : Tg} {tt : En → Res Bool} {fi1 : En → Res (List D)} {t1 : Tg} {tt1 : En → Res Bool} {fe : En → Res D} {vs1 : List Nat} {ρ : En} (e : α → D) (e1 : β → D) (bs : α → List β) (g : α → β → D) : ∀ xs : List α,
    (∀ x ∈ xs, (bs x).length ≤ 100000 ∧ ∃ ρ1, tgE t (e x) ρ = .ok ρ1 ∧ tt ρ1 = .ok true ∧ fi1 ρ1 = .ok ((bs x).map e1) ∧ ∀ y ∈ bs x, ∃ ρ2, tgE t1 (e1 y) (wipeE ρ1 vs1) = .ok ρ2 ∧ tt1 ρ2 = .ok true ∧ fe ρ2 = .ok (g x y)) →
    compF2 t tt fi1 t1 tt1 fe vs1 ρ (xs.map e) = .ok (xs.flatMap fun x => (bs x).map (g x))
  | [], _ => rfl
  | x :: xs, h => by
    obtain ⟨hl, ρ1, h1, h2, h3, h4⟩ := h x List.mem_cons_self
    have ih := compF2_en e e1 bs g xs fun y hy => h y (List.mem_cons_of_mem _ hy)
    show (tgE t (e x) ρ).bind _ = _
    rw [h1]
    show (noX (tt ρ1)).bind _ = _
    rw [h2]
    show ((noX (fi1 ρ1)).bind _).bind _ = _
    rw [h3]
    show (okL ((bs x).map e1).length (compF t1 tt1 fe (wipeE ρ1 vs1) ((bs x).map e1))).bind _ = _
    rw [okL_ok (by show _ ≤ 100000; rw [List.length_map]; exact hl), compF_en e1 (g x) (bs x) h4]
    show (compF2 t tt fi1 t1 tt1 fe vs1 ρ (xs.map e)).bind _ = _
    rw [ih]
    rfl
theorem lComp2_ok {own vs1 : List Nat} {t : Tg} {fi : En → Res (List D)} {tt : En → Res Bool} {t1 : Tg} {fi1 : En → Res (List D)} {tt1 : En → Res Bool} {fe : En → Res D} {ρ : En} {ds : List D} {r : Res (List D)} (h : fi ρ = .ok ds) (hl : ds.length ≤ 100000) (hc : compF2 t tt fi1 t1 tt1 fe vs1 (wipeE ρ own) ds = r) : lComp2 own vs1 t fi tt t1 fi1 tt1 fe ρ = r := by
  unfold lComp2
  rw [h]
  show okL ds.length _ = _
  rw [okL_ok hl]
  exact hc
end Pyr

set_option Elab.async false
set_option autoImplicit false
set_option linter.all false
set_option maxRecDepth 100000
set_option maxHeartbeats 8000000
namespace Pyr
open PySem PySem.Spec PyProof.Rows L2 Evl
/-- xs[::-1], a tuple or a list -/
def backL : D → Res D
  | .tuple ds => .ok (.tuple ds.reverse)
  | .list ds => .ok (.list ds.reverse)
  | _ => .bad
section
variable {TS : TabList} {X : Cx} {a : Expr} {fa : En → Res D} {pos p1 p2 p3 : Pos} {k : Nat}
theorem de_back2 (ha : DE TS X a fa) : DE TS X (.Subscript a (.Slice none none (some (.UnaryOp .USub (.Constant (.int 1) k p1) p2)) p3) pos) (e1 backL fa) := by
  refine ⟨?_⟩
  intro W ρ σ G H Q tk re ok post
  have post : PostG (RelE X.K) TS X W σ G H ((fa ρ).bind backL) Q := post
  cases h : fa ρ with
  | bad =>
    rw [h] at post
    exact post.elim
  | exc c fs =>
    rw [h] at post
    refine wpE_of (pe_backT (pe_wp X a)) ?_
    unfold tBackT
    refine ha W ρ σ G H _ tk re ok ?_
    rw [h]
    exact post
  | ok x =>
    rw [h] at post
    have post : PostG (RelE X.K) TS X W σ G H (backL x) Q := post
    cases x with
    | tuple ds =>
      refine wpE_of (pe_backT (pe_wp X a)) ?_
      unfold tBackT
      refine ha W ρ σ G H _ tk re ok ?_
      rw [h]
      intro v G1 H1 g1 r
      obtain ⟨b, xs, rfl, hb, rs⟩ := r.tup_inv
      refine ⟨b, xs, rfl, ex_t g1.ok.le hb, fun q hq => ?_⟩
      have g := Gr.new (o := .tup xs.reverse) g1.ok hq
      exact post _ _ _ (g1.trans g) (.tup (.inl (.inl upd_same)) ((rps_rev rs).mono g.g))
    | list ds =>
      refine wpE_of (pe_revL (pe_wp X a)) ?_
      unfold tRevL
      refine ha W ρ σ G H _ tk re ok ?_
      rw [h]
      intro v G1 H1 g1 r
      obtain ⟨b, xs, rfl, hb, rs⟩ := r.list_inv
      refine ⟨b, xs, rfl, ex_l g1.ok.le hb, fun q hq => ?_⟩
      have g := Gr.new (o := .lst xs.reverse) g1.ok hq
      exact post _ _ _ (g1.trans g) (.lst (.inl (.inl upd_same)) ((rps_rev rs).mono g.g))
    | _ => exact post.elim
end
end Pyr

set_option Elab.async false
set_option autoImplicit false
set_option linter.all false
set_option maxRecDepth 100000
set_option maxHeartbeats 8000000
/-! d = {}, d.setdefault(k, v) in a test, d[k] -/
namespace Pyr
open PySem PySem.Spec PyProof.Rows L2 Evl
theorem SI.changeS {TS : TabList} {K : PySem.W.Frag} {G_0 H_0 G H : Hp} {ρ : Frm} {σ : L2.St} {fp : Nat → List Addr} {i : Nat} {ds ds' : List Pyr.D} {a : Addr} {o' : HO} (s : SI TS K G_0 H_0 ρ σ G H fp) (hi : ρ[i]? = some (Sl.own (.set ds))) (ha : σ[i]? = some (some (.ref a))) (r : StAt TS K G (upd H a o') a ds') :
    SI TS K G_0 H_0 (ρ.set i (.own (.set ds'))) σ G (upd H a o') fp := by
  have hil : i < ρ.length := (List.getElem?_eq_some_iff.mp hi).1
  obtain ⟨v, hv, ro⟩ := s.own i _ hi
  rw [ha] at hv
  cases hv
  have hfp : fp i = [a] := by
    generalize hq : fp i = q at ro
    cases ro
    rfl
  have ham : a ∈ fp i := by rw [hfp]; simp
  obtain ⟨u, hu, hub⟩ := ro.there a ham
  obtain ⟨z1, z2⟩ := s.free i _ hi a ham
  have hs : σ.set i (some (.ref a)) = σ := by
    have hl : i < σ.length := by rw [← s.len]; exact hil
    have : σ[i] = some (.ref a) := by
      rw [List.getElem?_eq_getElem hl] at ha
      exact Option.some.inj ha
    rw [← this]
    exact List.set_getElem_self hl
  have keepO : ∀ b w, b ≠ a → H b = some w → upd H a o' b = some w := fun b w n h => by rw [upd_ne n]; exact h
  have gr : Gr TS G_0 H_0 G (upd H a o') := by
    refine ⟨s.gr.g, ⟨fun b w h n => keepO b w (ne_of_none h z2) (s.gr.h.same b w h n), fun b h => s.gr.h.old b (upd_none h)⟩, s.gr.nw, ⟨fun b w h => keepO b w (ne_of_none h z1) (s.gr.ok.le b w h), fun P hP => ?_, s.gr.ok.nt⟩⟩
    obtain ⟨ps, h1, h2⟩ := s.gr.ok.tb P hP
    refine ⟨ps, keepO P _ (fun e => ?_) h1, h2⟩
    rw [e, hu] at h1
    cases h1
    cases hub
  refine ⟨gr, by simpa using s.len, fun j d' h => ?_, fun j w h => ?_, fun j m w1 w2 h1 h2 hjm => ?_, fun j w h => ?_⟩
  · rcases set_at h with ⟨rfl, e, hl⟩ | ⟨ne, h⟩
    · cases e
    · exact s.val j d' h
  · rcases set_at h with ⟨rfl, e, hl⟩ | ⟨ne, h⟩
    · cases e
      exact ⟨_, ha, by rw [hfp]; exact .set r⟩
    · obtain ⟨v2, h1, h2⟩ := s.own j w h
      refine ⟨v2, h1, h2.keep (Ex.refl G) fun b hb w2 hw _ => keepO b w2 (fun e => ?_) hw⟩
      subst e
      exact s.apart i j _ _ hi h ne _ ham hb
  · have old : ∀ {k : Nat} {w : Own}, (ρ.set i (.own (.set ds')))[k]? = some (Sl.own w) → ∃ w', ρ[k]? = some (Sl.own w') := fun {k w} h => by
      rcases set_at h with ⟨rfl, e, _⟩ | ⟨_, h⟩
      · exact ⟨_, hi⟩
      · exact ⟨w, h⟩
    obtain ⟨w1', h1'⟩ := old h1
    obtain ⟨w2', h2'⟩ := old h2
    exact s.apart j m w1' w2' h1' h2' hjm
  · rcases set_at h with ⟨rfl, e, _⟩ | ⟨_, h⟩
    · exact s.free i _ hi
    · exact s.free j w h
section
variable {X : Cx} {pins : List (Addr × Obj)} {σ : L2.St} {H : Hp} {s : Shared}
theorem dkO_get {a : Addr} {ys : List (NestedKey × Addr × Addr)} (I : Inv X pins σ H s) (ha : H a = some (dkO X.prog X.w a ys)) : DkS X.prog X.w s.heap a ys := (I.hok a _ ha).1
theorem dkr_at (I : Inv X pins σ H s) : ∀ {ys : List (NestedKey × Addr × Addr)} {es : List Pyr.D}, DkR X.K H ys es → ∀ y ∈ ys, KAt s.heap y.1 y.2.1
  | _, _, .nil, y, h => nomatch h
  | _, _, .cons (kd := kd) r1 h1 h2 h3 r2 rs, y, h => by
    cases h with
    | head => exact ⟨h1 ▸ key_at I _ _ _ r1 h2 rfl, h1 ▸ Nat.le_trans (nk_depth kd) h3⟩
    | tail _ h => exact dkr_at I rs y h
end
/-- the entry of a key -/
def dGet : List Pyr.D → Pyr.D → Option Pyr.D
  | .tuple [a, b] :: es, k => if nk a = nk k then some b else dGet es k
  | _, _ => none
def dPut (es : List Pyr.D) (k v : Pyr.D) : List Pyr.D × Pyr.D := match dGet es k with
  | some b => (es, b)
  | none => (es ++ [.tuple [k, v]], v)
theorem dGet_of {K : PySem.W.Frag} {G : Hp} {k : Pyr.D} : ∀ {ys : List (NestedKey × Addr × Addr)} {es : List Pyr.D}, DkR K G ys es → match dGet es k with
    | some v => ∃ y ∈ ys, y.1 = nk k ∧ Rp K G (.ref y.2.2) v
    | none => ∀ y ∈ ys, y.1 ≠ nk k
  | _, _, .nil => fun y h => nomatch h
  | _, _, .cons (k := k0) (ka := ka) (b := b) (kd := kd) (vd := vd) (ys := ys) (es := es) r1 h1 h2 h3 r2 rs => by
    have ih := dGet_of (k := k) rs
    by_cases e : nk kd = nk k
    · rw [show dGet (.tuple [kd, vd] :: es) k = some vd from if_pos e]
      exact ⟨_, List.mem_cons_self, h1 ▸ e, r2⟩
    · rw [show dGet (.tuple [kd, vd] :: es) k = dGet es k from if_neg e]
      cases q : dGet es k with
      | some v =>
        rw [q] at ih
        obtain ⟨y, a, b⟩ := ih
        exact ⟨y, List.mem_cons_of_mem _ a, b⟩
      | none =>
        rw [q] at ih
        intro y hy
        cases hy with
        | head => exact fun z => e (h1.trans z)
        | tail _ hy => exact ih y hy
theorem dkr_app {K : PySem.W.Frag} {G : Hp} {k : NestedKey} {ka b : Addr} {kd vd : Pyr.D} (r1 : Rp K G (.ref ka) kd) (h1 : nk kd = k) (h2 : keyB kd = true) (h3 : kd.depth ≤ 8) (r2 : Rp K G (.ref b) vd) : ∀ {ys : List (NestedKey × Addr × Addr)} {es : List Pyr.D}, DkR K G ys es → DkR K G (ys ++ [(k, ka, b)]) (es ++ [.tuple [kd, vd]])
  | _, _, .nil => .cons r1 h1 h2 h3 r2 .nil
  | _, _, .cons a1 a2 a3 a4 a5 rs => .cons a1 a2 a3 a4 a5 (dkr_app r1 h1 h2 h3 r2 rs)
theorem dkr_len {K : PySem.W.Frag} {G : Hp} : ∀ {ys : List (NestedKey × Addr × Addr)} {es : List Pyr.D}, DkR K G ys es → ys.length = es.length
  | _, _, .nil => rfl
  | _, _, .cons _ _ _ _ _ rs => congrArg (· + 1) (dkr_len rs)
section
variable {X : Cx} {o e f : Expr} {td ty tx : TE} {apos cpos : Pos}
/-- d.setdefault(k, v), told -/
def tSdef (X : Cx) (td ty tx : TE) : TE := fun σ H Q => td σ H fun x H1 => ∃ a, x = .ref a ∧ (∃ ys, H1 a = some (dkO X.prog X.w a ys)) ∧ ty σ H1 fun y H2 => tx σ H2 fun z H3 => ∃ (ys : List (NestedKey × Addr × Addr)) (es : List Pyr.D) (kd : Pyr.D) (ka b : Addr), H3 a = some (dkO X.prog X.w a ys) ∧ y = .ref ka ∧ z = .ref b ∧ DkR X.K H3 ys es ∧ Rp X.K H3 (.ref ka) kd ∧ keyB kd = true ∧ kd.depth ≤ 8 ∧ ys.length ≤ 1000 ∧
  (∀ y' ∈ ys, y'.1 = nk kd → (ys.map (·.1)).Nodup → Q (.ref y'.2.2) H3) ∧ ((∀ y' ∈ ys, y'.1 ≠ nk kd) → Q (.ref b) (upd H3 a (dkO X.prog X.w a (ys ++ [(nk kd, ka, b)]))))
theorem pe_sdef (hu : X.A.units + 65 < cLine) (ho : PE X o td) (he : PE X e ty) (hf : PE X f tx) (m : M2 X o "setdefault" apos e f cpos) : PE X (.Call (.Attribute o "setdefault" apos) [e, f] [] cpos) (tSdef X td ty tx) := by
  refine ⟨fun pins s σ H Q I h => ?_⟩
  refine wpAny_Call_method m.base m.few m.line PySem.F.plainAttrs_dict PySem.F.slot_dict_setdefault PySem.F.type_dict_setdefault (thn (ho.run pins s σ H _ I h) fun u s1 ⟨x, H1, I1, rx, a, ex, ⟨ys0, d0⟩, q1⟩ => ?_)
  subst ex
  cases (show u = Value.ref a from rx)
  obtain ⟨o1, es1, ep1, z1, z2, _⟩ := (dkO_get I1 d0).ex
  refine ⟨⟨o1, z1, z2.1⟩, fun b e => by injection e with e; subst e; exact ⟨o1, z1, z2.2.1⟩, ?_⟩
  rw [m.trees]
  refine Calls.callWith_builtin rfl (Calls.evalArgs_plain (Calls.spliced_cons (thn (he.run pins s1 σ H1 _ I1 q1) fun iv s2 ⟨y, H2, I2, ry, q2⟩ =>
    Calls.spliced_cons (thn (hf.run pins s2 σ H2 _ I2 q2) fun fv s3 ⟨z, H3, I3, rz, ys, es, kd, ka, b, ea, ey, ez, R, rk, kb, dk, len, old, new⟩ => Calls.spliced_nil ?_))))
  subst ey ez
  cases (show iv = Value.ref ka from ry)
  cases (show fv = Value.ref b from rz)
  refine dk_default (k := nk kd) (dkO_get I3 ea) (dkr_at I3 R) ⟨key_at I3 _ _ _ rk kb rfl, Nat.le_trans (nk_depth kd) dk⟩ (by omega) len (fun y' hy e tk => ⟨.ref y'.2.2, H3, I3.tok _, rfl, old y' hy e (dkO_get I3 ea).nd⟩) fun none g tk D sb => ?_
  have there : ∃ v, g.get? a = some v := by
    obtain ⟨o2, _, _, h2, _⟩ := D.ex
    exact ⟨o2, h2⟩
  exact ⟨.ref b, _, I3.write (e := a) (t' := tk) (by rw [ea]; exact True.intro) (.inl rfl) (fun c v nb hv => (sb.2 c nb).trans hv) there (dkO_ok D), rfl, new none⟩
end
theorem same_fst {α β : Type} : ∀ {ys : List (α × β)}, (ys.map (·.1)).Nodup → ∀ {x y : α × β}, x ∈ ys → y ∈ ys → x.1 = y.1 → x = y
  | z :: ys, nd, x, y, hx, hy, e => by
    obtain ⟨n1, n2⟩ := List.nodup_cons.mp (show (z.1 :: ys.map (·.1)).Nodup from nd)
    cases hx with
    | head =>
      cases hy with
      | head => rfl
      | tail _ hy => exact absurd (List.mem_map.mpr ⟨y, hy, e.symm⟩) n1
    | tail _ hx =>
      cases hy with
      | head => exact absurd (List.mem_map.mpr ⟨x, hx, e⟩) n1
      | tail _ hy => exact same_fst n2 hx hy e
/-! ### statements and expressions -/
/-- d = {} -/
def sDict0 (i : Nat) : Frm → Res Fl := fun ρ => .ok (.next (ρ.set i (.own (.set [.none]))))
def dictF (i : Nat) (ρ : Frm) : Res (List Pyr.D) := match ρ[i]? with
  | some (.own (.set (.none :: es))) => .ok es
  | _ => .bad
def keyT (k : Pyr.D) : Bool := keyB k && tupB k && decide (k.depth ≤ 8)
def dkIx : List Pyr.D → Pyr.D → Res Pyr.D
  | .none :: es, k => if keyT k then (match dGet es k with
    | some v => .ok v
    | none => .bad) else .bad
  | _, _ => .bad
/-- d[k] -/
def eDk (i : Nat) (fk : En → Res Pyr.D) : En → Res Pyr.D := fun ρ => (setI i ρ).bind fun ds => (fk ρ).bind fun k => dkIx ds k
/-- if t and d.setdefault(k, v) != c: -/
def sIfSd (i : Nat) (ft : En → Res Bool) (fk fv fc : En → Res Pyr.D) (F1 F2 : Frm → Res Fl) : Frm → Res Fl := fun ρ => (evT ft ρ).bind fun b => if b then (dictF i ρ).bind fun es => (evP fk ρ).bind fun k => (evP fv ρ).bind fun v =>
  if (keyT k && tupB v && decide (es.length ≤ 900)) = true then (evP fc (ρ.set i (.own (.set (.none :: (dPut es k v).1))))).bind fun c => (neD (dPut es k v).2 c).bind fun z => match z with
    | .bool b2 => if b2 then F1 (ρ.set i (.own (.set (.none :: (dPut es k v).1)))) else F2 (ρ.set i (.own (.set (.none :: (dPut es k v).1))))
    | _ => .bad
  else .bad
  else F2 ρ
section
variable {TS : TabList} {X : Cx} {a b : Expr} {fa fb : En → Res Pyr.D} {pos : Pos}
theorem ds_dict0 (i : Nat) {y : Str} {p' dpos : Pos} (hP : TS.P = X.prog) (hw : TS.w = X.w) (C : CtE X) (hi : X.N[i]? = some y := by rfl) (hx : Loc X.env.scope y := by first | exact Or.inl rfl | exact Or.inr rfl)
    (hs : swapsWith (.Dict [] [] dpos) (some (.Name y p')) pos.line X.env = pure false := by rfl) (hf : X.fn y = true ∨ X.env.scope.names.lookup y = some .local := by first | exact .inl rfl | exact .inr rfl) : DSt TS X (.Assign [.Name y p'] (.Dict [] [] dpos) pos) (sDict0 i) := by
  refine ⟨?_⟩
  intro W ρ σ G_0 H_0 G H fp D tk s p
  have new : PE X (.Dict [] [] dpos) (fun _ H Q => ∀ l, H l = none → Q (.ref l) (upd H l (dkO X.prog X.w l []))) := ⟨fun pins s σ H Q I h =>
    wpAny_Dict_empty ⟨.ref s.heap.objs.size, _, I.laid (a := s.heap.objs.size) (o := dkO X.prog X.w s.heap.objs.size []) (t' := s.toks) (fun _ _ q => Heap.get?_push_of_some _ q) (Nat.le_refl _) (dkO_ok (dk_bare (Heap.DictOfH.new s.heap) (beq_eq_false_iff_ne.mpr (Nat.ne_of_gt I.big)))), rfl, h _ (I.hok.fresh (Nat.le_refl _))⟩⟩
  refine wpSt_of (ps_set C.nd hi hx new hs hf) ?_
  intro l hl
  obtain ⟨fp', s'⟩ := s.storeS (i := i) (l := l) (ds := [.none]) hl (o := dkO X.prog X.w l []) ⟨.inr (.inr ⟨[], [], rfl, by rw [hP, hw]; exact upd_same, .nil⟩)⟩
  exact p _ G _ fp' (Ex.refl _) s'
theorem de_dk (i : Nat) {x : Str} {pos' : Pos} (hP : TS.P = X.prog) (hw : TS.w = X.w) (hu : X.A.units + 65 < cLine) (hb : DE TS X b fb) (hN : X.N[i]? = some x := by rfl) (hv : Vis X.env.scope x := by first | exact Or.inl rfl | exact Or.inr (Or.inl rfl) | exact Or.inr (Or.inr rfl)) (hd : (x == ("__debug__" : Str)) = false := by decide) (hcd : (x == ("__classdict__" : Str)) = false := by decide)
    (hs : PlainIx b := by exact fun _ _ => rfl) : DE TS X (.Subscript (.Name x pos') b pos) (eDk i fb) := by
  refine ⟨?_⟩
  intro W ρ σ G H Q tk re ok post
  have post : PostG (RelE X.K) TS X W σ G H ((setI i ρ).bind fun ds => (fb ρ).bind fun k => dkIx ds k) Q := post
  refine wpE_of (pe_ix (ixr_wp) (pe_var hN hv hd hcd) (pe_wp X b) hs) ?_
  unfold setI at post
  split at post
  · rename_i ds hds
    obtain ⟨l, h1, h2⟩ := re.st i ds hds
    refine ⟨_, h1, ?_⟩
    have post : PostG (RelE X.K) TS X W σ G H ((fb ρ).bind fun k => dkIx ds k) Q := post
    refine bindP back_E (fun Q' h => hb W ρ σ G H Q' tk re ok h) post fun u y G2 H2 _ g2 ry p2 => ?_
    have h3 := h2.mono g2.g fun u hu n => g2.h.at hu n
    intro value slice pins s σ' v' u' I rv ru hs'
    unfold dkIx at p2
    split at p2
    · rename_i es _post
      split at p2
      · rename_i kt
        unfold keyT at kt
        simp only [Bool.and_eq_true, decide_eq_true_eq] at kt
        obtain ⟨⟨kb, tb⟩, dp⟩ := kt
        rcases h3.ex with ⟨hne, z⟩ | ⟨ps, _, r3, _⟩ | ⟨ys, es', e3, z, R⟩
        · obtain ⟨hD, _, _⟩ := (show _ ∧ _ ∧ _ from I.hok l _ z)
          have hD : SetD TS.P TS.w s.heap l (.none :: es) := hD
          generalize hz : (PyData.none :: es) = zs at hD
          cases hD with
          | txt xs hT =>
            cases xs with
            | nil => cases hz
            | cons x xs => rw [List.map_cons] at hz; injection hz with hz; cases hz
        · cases ps with
          | nil => cases r3
          | cons p ps =>
            cases r3 with
            | cons r _ => cases r
        · injection e3 with _ e3
          subst e3
          rw [hP, hw] at z
          cases (show v' = Value.ref l from rv)
          obtain ⟨ka, rfl⟩ : ∃ ka, u = V.ref ka := by
            cases (show Rp X.K G2 u y from ry) <;> first | exact ⟨_, rfl⟩ | cases tb
          cases (show u' = Value.ref ka from ru)
          have found := dGet_of (k := y) R
          cases q : dGet es y with
          | none =>
            rw [q] at p2
            exact p2.elim
          | some w =>
            rw [q] at p2 found
            obtain ⟨y', hy, ey, rv'⟩ := found
            obtain ⟨o1, _, _, z1, z2, _⟩ := (dkO_get I z).ex
            have ke := key_at I _ _ _ ((show Rp X.K G2 (V.ref ka) y from ry).mono g2.ok.le) kb rfl
            refine tail_any (s := s) ⟨o1, z1, z2.1⟩ slot_dict_getitem.lookup ?_ hs'
            exact dk_get (dkO_get I z) (dkr_at I (R.mono g2.ok.le)) ⟨ke, Nat.le_trans (nk_depth y) dp⟩ (by omega) hy ey fun tk' => ⟨.ref y'.2.2, H2, I.tok _, rfl, p2 (.ref y'.2.2) G2 H2 (Gr.refl g2.ok) rv'⟩
      · exact p2.elim
    · exact p2.elim
  · exact post.elim
theorem ds_ifSd (i : Nat) {x : Str} {p1 apos cpos qpos bpos : Pos} {c kx vx cx : Expr} {ft : En → Res Bool} {fk fv fc : En → Res Pyr.D} {b1 b2 : List Stmt} {F1 F2 : Frm → Res Fl} (hP : TS.P = X.prog) (hw : TS.w = X.w) (C : CtE X) (hc : DT TS X c ft) (hk : DE TS X kx fk) (hvv : DE TS X vx fv) (hcc : DE TS X cx fc) (h1 : DSs TS X b1 F1) (h2 : DSs TS X b2 F2)
    (m : M2 X (.Name x p1) "setdefault" apos kx vx cpos) (hN : X.N[i]? = some x := by rfl) (hv : Vis X.env.scope x := by first | exact Or.inl rfl | exact Or.inr (Or.inl rfl) | exact Or.inr (Or.inr rfl)) (hd : (x == ("__debug__" : Str)) = false := by decide) (hcd : (x == ("__classdict__" : Str)) = false := by decide) :
    DSt TS X (.If (.BoolOp .And [c, .Compare (.Call (.Attribute (.Name x p1) "setdefault" apos) [kx, vx] [] cpos) [.NotEq] [cx] qpos] bpos) b1 b2 pos) (sIfSd i ft fk fv fc F1 F2) := by
  refine ⟨?_⟩
  intro W ρ σ G_0 H_0 G H fp D tk s p
  refine wpSt_of (ps_if (PW.pt (pw_and (pt_wp X c) (pw_and1 (pt_cmpR (opr_wp _) (pe_sdef C.un (pe_var hN hv hd hcd) (pe_wp X kx) (pe_wp X vx) m) (pe_wp X cx) (nomark _))))) (pss_wp X b1) (pss_wp X b2)) ?_
  refine evT_run hc tk s p fun b H1 g p => ?_
  have s1 := s.grow g
  cases b with
  | false => exact iteF (iteF (h2 W ρ σ G_0 H_0 G H1 fp D tk s1 p))
  | true =>
  refine iteT ?_
  have p : PostS TS X W G_0 H_0 G D ((dictF i ρ).bind fun es => (evP fk ρ).bind fun k => (evP fv ρ).bind fun v =>
    if (keyT k && tupB v && decide (es.length ≤ 900)) = true then (evP fc (ρ.set i (.own (.set (.none :: (dPut es k v).1))))).bind fun c => (neD (dPut es k v).2 c).bind fun z => match z with
      | .bool b2 => if b2 then F1 (ρ.set i (.own (.set (.none :: (dPut es k v).1)))) else F2 (ρ.set i (.own (.set (.none :: (dPut es k v).1))))
      | _ => .bad
    else .bad) := p
  unfold dictF at p
  split at p
  · rename_i es hi
    have p : PostS TS X W G_0 H_0 G D ((evP fk ρ).bind fun k => (evP fv ρ).bind fun v =>
      if (keyT k && tupB v && decide (es.length ≤ 900)) = true then (evP fc (ρ.set i (.own (.set (.none :: (dPut es k v).1))))).bind fun c => (neD (dPut es k v).2 c).bind fun z => match z with
        | .bool b2 => if b2 then F1 (ρ.set i (.own (.set (.none :: (dPut es k v).1)))) else F2 (ρ.set i (.own (.set (.none :: (dPut es k v).1))))
        | _ => .bad
      else .bad) := p
    obtain ⟨v0, hv0, ro⟩ := s1.own i _ hi
    obtain ⟨l, rfl, st⟩ : ∃ l, v0 = .ref l ∧ StAt TS X.K G H1 l (.none :: es) := by
      generalize fp i = q at ro
      cases ro with
      | set h => exact ⟨_, rfl, h⟩
    obtain ⟨ys, R, z1⟩ : ∃ ys, DkR X.K G ys es ∧ H1 l = some (dkO TS.P TS.w l ys) := by
      rcases st.ex with ⟨⟨_, hne⟩, _⟩ | ⟨ps, _, r3, _⟩ | ⟨ys, es', e3, z, R⟩
      · exact absurd rfl hne
      · cases ps with
        | nil => cases r3
        | cons p ps =>
          cases r3 with
          | cons r _ => cases r
      · injection e3 with _ e3
        subst e3
        exact ⟨ys, R, z⟩
    refine ⟨_, hv0, l, rfl, ⟨ys, by rw [← hP, ← hw]; exact z1⟩, ?_⟩
    refine evP_run hk tk s1 p fun yv kd G2 H2 g2 rk p => ?_
    have s2 := s1.grow g2
    refine evP_run hvv tk s2 (p.shift g2.g) fun zv vd G3 H3 g3 rv p => ?_
    have s3 := s2.grow g3
    have p := p.shift g3.g
    split at p
    · rename_i cond
      unfold keyT at cond
      simp only [Bool.and_eq_true, decide_eq_true_eq] at cond
      obtain ⟨⟨⟨⟨kb, tb⟩, dp⟩, tv⟩, len⟩ := cond
      obtain ⟨ka, rfl⟩ : ∃ ka, yv = V.ref ka := by cases rk <;> first | exact ⟨_, rfl⟩ | cases tb
      obtain ⟨b, rfl⟩ : ∃ b, zv = V.ref b := by cases rv <;> first | exact ⟨_, rfl⟩ | cases tv
      have R3 := R.mono (g2.g.trans g3.g)
      have z3 : H3 l = some (dkO TS.P TS.w l ys) := (g2.trans g3).h.at z1 rfl
      have rk3 := rk.mono g3.g
      -- the comparison and what follows
      have tail : ∀ (ρ' : Frm) (r : Pyr.D) (rr : V) (H' : Hp), SI TS X.K G_0 H_0 ρ' σ G3 H' fp → Rp X.K G3 rr r → PostS TS X W G_0 H_0 G3 D ((evP fc ρ').bind fun c => (neD r c).bind fun z => match z with
            | .bool b2 => if b2 then F1 ρ' else F2 ρ'
            | _ => .bad) → wpE X cx σ H' fun u H4 => wpO X (compareOp .NotEq) rr u H4 fun z H5 => ∃ k, z = .bl k ∧ (if k = true then wpSs X b1 D σ H5 else wpSs X b2 D σ H5) := by
        intro ρ' r rr H' s4 hr p
        refine evP_run hcc tk s4 p fun cv cd G4 H4 g4 rc p => ?_
        have s5 := s4.grow g4
        cases hn : neD r cd with
        | bad => rw [hn] at p; exact p.elim
        | exc c' fs' =>
          exfalso
          unfold neD at hn
          split at hn <;> cases hn
        | ok zd =>
          rw [hn] at p
          cases zd with
          | bool k =>
            refine od_ne C W σ _ _ r cd G4 H4 _ s5.gr.ok (hr.mono g4.g) rc ?_
            rw [hn]
            intro v5 G5 H5 g5 r5
            cases r5
            have s6 := s5.grow g5
            have p : PostS TS X W G_0 H_0 G3 D (if k then F1 ρ' else F2 ρ') := p
            have p := p.shift (g4.g.trans g5.g)
            refine ⟨k, rfl, ?_⟩
            cases k with
            | true => exact iteT (h1 W ρ' σ G_0 H_0 G5 H5 fp D tk s6 p)
            | false => exact iteF (h2 W ρ' σ G_0 H_0 G5 H5 fp D tk s6 p)
          | _ => exact p.elim
      have found := dGet_of (k := kd) R3
      refine ⟨ys, es, kd, ka, b, by rw [← hP, ← hw]; exact z3, rfl, rfl, R3.mono s3.gr.ok.le, rk3.mono s3.gr.ok.le, kb, dp, by rw [dkr_len R]; omega, fun y' hy ey nd => ?_, fun none => ?_⟩
      · cases q : dGet es kd with
        | none =>
          rw [q] at found
          exact absurd ey (found y' hy)
        | some w =>
          rw [q] at found
          obtain ⟨y2, hy2, ey2, rw2⟩ := found
          have e : y2 = y' := same_fst nd hy2 hy (ey2.trans ey.symm)
          subst e
          have eput : dPut es kd vd = (es, w) := by unfold dPut; rw [q]
          rw [eput] at p
          have eρ : ρ.set i (.own (.set (.none :: es))) = ρ := by
            obtain ⟨hl, e⟩ := List.getElem?_eq_some_iff.mp hi
            rw [← e]
            exact List.set_getElem_self hl
          rw [eρ] at p
          exact tail ρ w _ H3 s3 rw2 p
      · cases q : dGet es kd with
        | some w =>
          rw [q] at found
          obtain ⟨y2, hy2, ey2, _⟩ := found
          exact absurd ey2 (none y2 hy2)
        | none =>
          have eput : dPut es kd vd = (es ++ [.tuple [kd, vd]], vd) := by unfold dPut; rw [q]
          rw [eput] at p
          have R4 := dkr_app rk3 rfl kb dp rv R3
          have s4 := s3.changeS (a := l) (o' := dkO X.prog X.w l (ys ++ [(nk kd, ka, b)])) (ds' := .none :: (es ++ [.tuple [kd, vd]])) hi hv0 ⟨.inr (.inr ⟨_, _, rfl, by rw [hP, hw]; exact upd_same, R4⟩)⟩
          exact tail _ vd _ _ s4 rv p
    · exact p.elim
  · exact p.elim
end
end Pyr

set_option Elab.async false
set_option autoImplicit false
set_option linter.all false
set_option maxRecDepth 100000
set_option maxHeartbeats 8000000
/-! a new tuple of new lists: return (l, m), x = f(..), x[j].append(e) -/
namespace Pyr
open PySem PySem.Spec PyProof.Rows L2 Evl
/-- an own object changed in place -/
theorem SI.changeG {TS : TabList} {K : PySem.W.Frag} {G_0 H_0 G H : Hp} {ρ : Frm} {σ : L2.St} {fp : Nat → List Addr} {i : Nat} {o o' : Own} {a : Addr} {u' : HO} {v : V} (s : SI TS K G_0 H_0 ρ σ G H fp) (hi : ρ[i]? = some (Sl.own o)) (ha : σ[i]? = some (some v)) (ham : a ∈ fp i) (r : RpO TS K G (upd H a u') (fp i) v o') :
    SI TS K G_0 H_0 (ρ.set i (.own o')) σ G (upd H a u') fp := by
  have hil : i < ρ.length := (List.getElem?_eq_some_iff.mp hi).1
  obtain ⟨v', hv, ro⟩ := s.own i _ hi
  obtain ⟨u, hu, hub⟩ := ro.there a ham
  obtain ⟨z1, z2⟩ := s.free i _ hi a ham
  have keepO : ∀ b w, b ≠ a → H b = some w → upd H a u' b = some w := fun b w n h => by rw [upd_ne n]; exact h
  have gr : Gr TS G_0 H_0 G (upd H a u') := by
    refine ⟨s.gr.g, ⟨fun b w h n => keepO b w (ne_of_none h z2) (s.gr.h.same b w h n), fun b h => s.gr.h.old b (upd_none h)⟩, s.gr.nw, ⟨fun b w h => keepO b w (ne_of_none h z1) (s.gr.ok.le b w h), fun P hP => ?_, s.gr.ok.nt⟩⟩
    obtain ⟨ps, h1, h2⟩ := s.gr.ok.tb P hP
    refine ⟨ps, keepO P _ (fun e => ?_) h1, h2⟩
    rw [e, hu] at h1
    cases h1
    cases hub
  refine ⟨gr, by simpa using s.len, fun j d' h => ?_, fun j w h => ?_, fun j m w1 w2 h1 h2 hjm => ?_, fun j w h => ?_⟩
  · rcases set_at h with ⟨rfl, e, hl⟩ | ⟨ne, h⟩
    · cases e
    · exact s.val j d' h
  · rcases set_at h with ⟨rfl, e, hl⟩ | ⟨ne, h⟩
    · cases e
      exact ⟨_, ha, r⟩
    · obtain ⟨v2, h1, h2⟩ := s.own j w h
      refine ⟨v2, h1, h2.keep (Ex.refl G) fun b hb w2 hw _ => keepO b w2 (fun e => ?_) hw⟩
      subst e
      exact s.apart i j _ _ hi h ne _ ham hb
  · have old : ∀ {k : Nat} {w : Own}, (ρ.set i (.own o'))[k]? = some (Sl.own w) → ∃ w', ρ[k]? = some (Sl.own w') := fun {k w} h => by
      rcases set_at h with ⟨rfl, e, _⟩ | ⟨_, h⟩
      · exact ⟨_, hi⟩
      · exact ⟨w, h⟩
    obtain ⟨w1', h1'⟩ := old h1
    obtain ⟨w2', h2'⟩ := old h2
    exact s.apart j m w1' w2' h1' h2' hjm
  · rcases set_at h with ⟨rfl, e, _⟩ | ⟨_, h⟩
    · exact s.free i _ hi
    · exact s.free j w h
theorem RpOs.at' {K : PySem.W.Frag} {G H : Hp} : ∀ {l : List Addr} {us : List V} {dss : List (List D)} {j : Nat} {ds : List D}, RpOs K G H l us dss → dss[j]? = some ds → ∃ a vs, us[j]? = some (.ref a) ∧ a ∈ l ∧ H a = some (.lst vs) ∧ Rps K G vs ds ∧
      ∀ (ds' : List D) (vs' : List V), Rps K G vs' ds' → RpOs K G (upd H a (.lst vs')) l us (dss.set j ds')
  | _, _, _, _, _, .nil, h => by simp at h
  | _, _, _, 0, ds, .cons (a := a) (vs := vs) h r n q, e => by
    simp at e
    subst e
    refine ⟨a, vs, rfl, List.mem_cons_self, h, r, fun ds' vs' r' => .cons upd_same r' n (q.keep (Ex.refl G) fun b hb ws hw => ?_)⟩
    rw [upd_ne fun z => n (by rw [← z]; exact hb)]
    exact hw
  | _, _, _, j + 1, ds, .cons (a := b) h r n q, e => by
    obtain ⟨a, vs, h1, h2, h3, h4, h5⟩ := RpOs.at' (j := j) q (by simpa using e)
    refine ⟨a, vs, by simpa using h1, List.mem_cons_of_mem _ h2, h3, h4, fun ds' vs' r' => .cons ?_ r n (h5 ds' vs' r')⟩
    rw [upd_ne fun z => n (by rw [z]; exact h2)]
    exact h
structure DU (TS : TabList) (X : Cx) (e : Expr) (f : En → Res (List (List D))) : Prop where
  run : ∀ (W : WX) (ρ : En) (σ : L2.St) (G H : Hp) (Q : VK), Takes X W → RpE TS X.K G H ρ σ → Ok0 TS G H → PostG (RelU X.K) TS X W σ G H (f ρ) Q → wpE X e σ H Q
def ownU : RV → Res (List (List D))
  | .ownU dss => .ok dss
  | _ => .bad
def uCall (m : List D → Res RV) (fr : En → Res (List D)) : En → Res (List (List D)) := fun ρ => (fr ρ).bind fun ds => (m ds).bind ownU
def u2 (fa fb : En → Res (List D)) : En → Res (List (List D)) := fun ρ => (fa ρ).bind fun x => (fb ρ).bind fun y => .ok [x, y]
def sSetO2 (i : Nat) (fe : En → Res (List (List D))) : Frm → Res Fl := fun ρ => (fe (purE ρ)).bind fun dss => .ok (.next (ρ.set i (.own (.tup dss))))
def sRetU (fe : En → Res (List (List D))) : Frm → Res Fl := fun ρ => (fe (purE ρ)).bind fun dss => .ok (.ret (.ownU dss))
def sAppU (i j : Nat) (fe : En → Res D) : Frm → Res Fl := fun ρ => match ρ[i]? with
  | some (Sl.own (.tup dss)) => match dss[j]? with
    | some ds => (evP fe ρ).bind fun d => okL (ds.length + 1) (.ok (.next (ρ.set i (.own (.tup (dss.set j (ds ++ [d])))))))
    | none => .bad
  | _ => .bad
section
variable {TS : TabList} {X : Cx} {W : WX} {a b e : Expr} {es : List Expr} {fa fb : En → Res (List D)} {fe : En → Res D} {fr : En → Res (List D)} {fu : En → Res (List (List D))} {pos p : Pos} {x : Str} {ps : List Str} {k k' : Nat} {m : List D → Res RV}
theorem du_call (F : Known TS X.prog X.w X.K X.mg X.base k x ps m) (hr : Room k' X.A) (hk : k ≤ k') (hg : Gl X x) (ha : DA TS X (a :: es) fr) (hdb : (x == ("__debug__" : Str)) = false := by decide)
    (he : starEach (a :: es) X.env = (false, eval a X.env) :: starEach es X.env := by rfl) (hpl : (backTo pos (starEach es X.env)).any (·.1) = false := by rfl) : DU TS X (.Call (.Name x p) (a :: es) [] pos) (uCall m fr) := by
  refine ⟨?_⟩
  intro W ρ σ G H Q tk re ok post
  obtain ⟨f, fd, F, hm, hkp, hb⟩ := F.ex
  refine wpE_of (pe_callSD F (hr.mono hk) hg hm hkp hb .nil (passAt tk) (pa_wp X (a :: es)) hdb he hpl) ?_
  refine bindP (wp := fun R => wpA X (a :: es) σ H R) back_U (fun Q' p => ha W ρ σ G H Q' tk re ok p) post fun vs ds G1 H1 _ g1 rs p => ?_
  rw [List.append_nil]
  refine ⟨G1, ds, rs, g1.ok, ?_⟩
  cases hm : m ds with
  | ok r =>
    rw [hm] at p
    cases r with
    | val d => exact p.elim
    | own ys => exact p.elim
    | ownU dss => exact p
  | exc c fs =>
    rw [hm] at p
    exact p
  | bad =>
    rw [hm] at p
    exact p
theorem du_tup2 {x1} (ha : DL TS X a fa) (hb : DL TS X b fb) (h1 : starEach [a, b] X.env = (false, eval a X.env) :: starEach [b] X.env := by rfl) (h2 : starEach [b] X.env = (false, eval b X.env) :: starEach [] X.env := by rfl) : DU TS X (.Tuple [a, b] x1 pos) (u2 fa fb) := by
  refine ⟨?_⟩
  intro W ρ σ G H Q tk re ok post
  refine wpE_of (pe_tup (pa_cons (pe_wp X a) (pa_cons (pe_wp X b) pa_nil h2) h1)) ?_
  refine bindP (wp := fun R => wpE X a σ H R) back_U (fun Q' p => ha W ρ σ G H Q' tk re ok p) post fun v x G1 H1 e1 g1 rx p => ?_
  refine bindP (wp := fun R => wpE X b σ H1 R) back_U (fun Q' q => hb W ρ σ G1 H1 Q' tk (re.mono g1) g1.ok q) p fun w y G2 H2 e2 g2 ry p => ?_
  obtain ⟨q1, vs, rfl, h0, g0, hq1, r1⟩ := rx
  obtain ⟨q2, ws, rfl, h02, g02, hq2, r2⟩ := ry
  refine ⟨by show 2 ≤ sizeLine; decide, fun q hq => ?_⟩
  have n1 : q1 ≠ q := fun z => by
    have := g2.h.at hq1 rfl
    rw [z, hq] at this
    cases this
  have n2 : q2 ≠ q := fun z => by
    rw [z, hq] at hq2
    cases hq2
  have n12 : q1 ≠ q2 := fun z => by
    rw [z, h02] at hq1
    cases hq1
  have g2q1 : G2 q1 = none := by
    cases e : G2 q1 with
    | none => rfl
    | some u =>
      rcases g2.nw q1 (by rw [e]; simp) with c | c
      · exact absurd g0 c
      · rw [hq1] at c
        cases c
  have post : PostG (RelU X.K) TS X W σ G H (.ok [x, y]) Q := by
    have z : u2 fa fb ρ = .ok [x, y] := by
      unfold u2
      rw [e1]
      show ((fb ρ).bind _) = _
      rw [e2]
      rfl
    rw [← z]
    exact post
  refine post (.ref q) G2 _ (g1.trans (g2.trans (Gr.own g2.ok hq))) ⟨q, [q1, q2], _, rfl, g1.h.old q (g2.h.old q hq), fresh_back g2.ok.le hq, upd_same, by simp [n1.symm, n2.symm], ?_, fun z hz => ?_⟩
  · exact .cons (by rw [upd_ne n1]; exact g2.h.at hq1 rfl) (r1.mono g2.g) (by simpa using n12) (.cons (by rw [upd_ne n2]; exact hq2) r2 (by simp) .nil)
  · simp only [List.mem_cons, List.not_mem_nil, or_false] at hz
    rcases hz with rfl | rfl
    · exact ⟨h0, g2q1⟩
    · exact ⟨g1.h.old _ h02, g02⟩
variable {G_0 H_0 G H G1 H1 : Hp} {ρ : Frm} {σ : L2.St} {fp : Nat → List Addr} {D : Ends}
theorem evU_run {k : List (List Pyr.D) → Res Fl} {R : VK} (he : DU TS X e fu) (tk : Takes X W) (s : SI TS X.K G_0 H_0 ρ σ G H fp) (p : PostS TS X W G_0 H_0 G D ((fu (purE ρ)).bind k))
    (next : ∀ (v : V) (dss : List (List Pyr.D)) (G1 H1 : Hp), Gr TS G H G1 H1 → RelU X.K H G1 H1 v dss → PostS TS X W G_0 H_0 G D (k dss) → R v H1) : wpE X e σ H R := by
  cases h1 : fu (purE ρ) with
  | ok d =>
    rw [h1] at p
    refine he.run W (purE ρ) σ G H R tk s.pure s.gr.ok ?_
    rw [h1]
    exact fun v G1 H1 g r => next v d G1 H1 g r p
  | exc c fs =>
    rw [h1] at p
    refine he.run W (purE ρ) σ G H R tk s.pure s.gr.ok ?_
    rw [h1]
    exact postX_of s p
  | bad =>
    rw [h1] at p
    exact p.elim
theorem ds_setO2 (i : Nat) {x : Str} {pos' : Pos} (he : DU TS X e fu) (C : CtE X) (hi : X.N[i]? = some x := by rfl) (hx : Loc X.env.scope x := by first | exact Or.inl rfl | exact Or.inr rfl) (hs : swapsWith e (some (.Name x pos')) pos.line X.env = pure false := by rfl) (hf : X.fn x = true ∨ X.env.scope.names.lookup x = some .local := by first | exact .inl rfl | exact .inr rfl) :
    DSt TS X (.Assign [.Name x pos'] e pos) (sSetO2 i fu) := by
  refine ⟨?_⟩
  intro W ρ σ G_0 H_0 G H fp D tk s p
  refine wpSt_of (ps_set C.nd hi hx (pe_wp X e) hs hf) ?_
  refine evU_run he tk s p fun v dss G1 H1 g r p => ?_
  obtain ⟨q, l, us, rfl, h0, g0, hq, nq, rs, fr⟩ := r
  have new : ∀ a ∈ q :: l, G1 a = none ∧ H a = none := fun a ha => by
    rcases List.mem_cons.mp ha with rfl | ha
    · exact ⟨g0, h0⟩
    · exact ⟨(fr a ha).2, (fr a ha).1⟩
  refine p _ G1 H1 _ g.g ((s.grow g).setOwn (.tup hq nq rs) (fun a ha => ⟨(new a ha).1, s.gr.h.old a (new a ha).2⟩) fun j u hj _ a ha hb => ?_)
  obtain ⟨v2, _, h2⟩ := s.own j u hj
  obtain ⟨w, hw, _⟩ := h2.there a hb
  rw [(new a ha).2] at hw
  cases hw
theorem ds_retU (he : DU TS X e fu) : DSt TS X (.Return (some e) pos) (sRetU fu) := by
  refine ⟨?_⟩
  intro W ρ σ G_0 H_0 G H fp D tk s p
  refine wpSt_of (ps_ret (pe_wp X e)) ?_
  refine evU_run he tk s p fun v dss G1 H1 g r p => ?_
  obtain ⟨q, l, us, rfl, h0, g0, hq, nq, rs, fr⟩ := r
  exact p _ G1 H1 (s.gr.trans g) ⟨q, l, us, rfl, s.gr.h.old q h0, g0, hq, nq, rs, fun a ha => ⟨s.gr.h.old a (fr a ha).1, (fr a ha).2⟩⟩
theorem ds_appU (i j : Nat) {x : Str} {kk : Nat} {pos' ipos spos apos cpos : Pos} (he : DE TS X e fe) (hN : X.N[i]? = some x := by rfl) (hv : Vis X.env.scope x := by first | exact Or.inl rfl | exact Or.inr (Or.inl rfl) | exact Or.inr (Or.inr rfl)) (hd : (x == ("__debug__" : Str)) = false := by decide) (hcd : (x == ("__classdict__" : Str)) = false := by decide)
    (hbase : attributeBase (.Subscript (.Name x pos') (.Constant (.int (j : Int)) kk ipos) spos) "append" X.env (eval (.Subscript (.Name x pos') (.Constant (.int (j : Int)) kk ipos) spos) X.env) = eval (.Subscript (.Name x pos') (.Constant (.int (j : Int)) kk ipos) spos) X.env := by rfl)
    (hfew : ((backTo cpos (starEach [e] X.env)).all (fun x => !x.1) && (backToKw cpos (keywordEach [] X.env)).all (fun x => x.1.isSome)
      && decide ([e].length + ([] : List Keyword).length + (if ([] : List Keyword).isEmpty then 0 else 1) < 30)) = true := by rfl)
    (hline : (apos.endLine == cpos.line) = true := by rfl) (hs : starEach [e] X.env = (false, eval e X.env) :: starEach [] X.env := by rfl) (hplain : (backTo cpos (starEach [] X.env)).any (·.1) = false := by rfl)
    (hsw : swapsWith (.Call (.Attribute (.Subscript (.Name x pos') (.Constant (.int (j : Int)) kk ipos) spos) "append" apos) [e] [] cpos) none pos.line X.env = pure false := by rfl) :
    DSt TS X (.Expr (.Call (.Attribute (.Subscript (.Name x pos') (.Constant (.int (j : Int)) kk ipos) spos) "append" apos) [e] [] cpos) pos) (sAppU i j fe) := by
  refine ⟨?_⟩
  intro W ρ σ G_0 H_0 G H fp D tk s p
  refine wpSt_of (ps_expr (pe_bm PySem.F.plainAttrs_list PySem.F.slot_list_append PySem.F.type_list_append mt_append (pe_ix ix_tup (pe_var hN hv hd hcd) pe_int (fun _ _ => rfl)) (pa_cons (pe_wp X e) pa_nil hs) hbase hfew hline hs hplain) hsw) ?_
  unfold sAppU at p
  split at p
  · rename_i dss hi
    split at p
    · rename_i ds hj
      obtain ⟨v, hv, ro⟩ := s.own i _ hi
      generalize hl : fp i = l at ro
      cases ro with
      | @tup q l us _ hq nq rs =>
        obtain ⟨a, vs, u1, al, ha, r, chg⟩ := rs.at' hj
        refine ⟨_, hv, q, us, (j : Int), .ref a, rfl, rfl, .inl (.inl hq), ?_, Or.inl ⟨rfl, vs, SqL.of ha⟩, ?_⟩
        · have hjl : j < us.length := (List.getElem?_eq_some_iff.mp u1).1
          unfold atI
          rw [show ixN us.length (j : Int) = some j by
            unfold ixN
            rw [if_pos (by omega), if_pos (by omega)]
            rfl]
          exact u1
        · refine evP_run he tk s p fun w d G1 H1 g rv p => ?_
          have hp : ds.length + 1 ≤ LIM ∧ PostS TS X W G_0 H_0 G D (.ok (.next (ρ.set i (.own (.tup (dss.set j (ds ++ [d]))))))) := by
            unfold okL at p
            split at p
            · exact ⟨by assumption, p⟩
            · exact p.elim
          have hq1 : H1 a = some (.lst vs) := g.h.at ha rfl
          refine ⟨a, vs, w, rfl, rfl, hq1, ?_, ?_⟩
          · rw [r.len]
            exact Nat.lt_of_lt_of_le hp.1 (by decide)
          · have rs1 : RpOs X.K G1 H1 l us dss := rs.keep g.g fun b hb ws hw => g.h.at hw rfl
            obtain ⟨a', vs', u1', al', ha', r', chg'⟩ := rs1.at' hj
            have ea : a' = a := by
              rw [u1] at u1'
              cases u1'
              rfl
            subst ea
            have ev : vs' = vs := by
              rw [hq1] at ha'
              cases ha'
              rfl
            subst ev
            have nqa : q ≠ a' := fun z => nq (by rw [z]; exact al)
            refine hp.2 σ G1 _ fp g.g ((s.grow g).changeG hi hv (a := a') (by rw [hl]; exact List.mem_cons_of_mem _ al) ?_)
            rw [hl]
            exact .tup (by rw [upd_ne nqa]; exact g.h.at hq rfl) nq (chg' _ _ (r'.app (.cons rv .nil)))
    · exact p.elim
  · exact p.elim
end
theorem seqO {F1 F2 : Frm → Res Fl} {ρ ρ' : Frm} {r : Res RV} (h : F1 ρ = .ok (.next ρ')) (h2 : outR (F2 ρ') = r) : outR (sSeq F1 F2 ρ) = r := by
  rw [seq_ok h]
  exact h2
theorem run_fSu {xs ys : List D} : frzS (.own (.tup [xs, ys])) = some (.tuple [.list xs, .list ys]) := rfl
theorem run_pSu {dss : List (List D)} : purS (.own (.tup dss)) = none := rfl
theorem run_ownU {dss : List (List D)} : ownU (.ownU dss) = .ok dss := rfl
end Pyr

set_option Elab.async false
set_option autoImplicit false
set_option linter.all false
set_option maxRecDepth 100000
set_option maxHeartbeats 4000000
namespace K06
open PySem PySem.Spec PyProof.Rows L2 Evl Pyr
def topS (i : Nat) : Stmt := PySem.Challenge.pw_wishshown_k06_changes_and_back.main.body.getD i (.Pass ⟨0, 0, 0, 0⟩)
abbrev eL (f : En → Res (List D)) : En → Res D := fun ρ => (f ρ).map .list
noncomputable section
variable {CL : List Addr} {P : Program} {w : World} {K : PySem.W.Frag} {mg : Str → Option Value} {base : Heap}
abbrev s__law_draws : Stmt := topS 7
abbrev N__law_draws : List Str := ["script", "count", "rests", "draws", "k", "value", "cell", "at", "mixed"]
theorem sc__law_draws : FnScope N__law_draws ["script", "count"] (defScope s__law_draws) := ⟨rfl, rfl, rfl, by decide +kernel, rfl, by decide +kernel, by decide +kernel⟩
theorem bo__law_draws : BindOk "_law_draws" s__law_draws ["script", "count"] := fun _ _ _ _ _ _ us hl => match us, hl with | [_, _], _ => rfl
def B__law_draws_0 : Frm → Res Fl := (sSeq (sSet 5 (eC (.int 0)))
  (sSeq (sIf (tE boolD (e2 gtD (eN (oneD lenD) (aC (eVar 2) a0)) (eC (.int 0)))) (sSeq (sSet 7 (e2 modD (eN (oneD int2D) (aC (eVar 4) a0)) (eN (oneD lenD) (aC (eVar 2) a0))))
  (sIf (tE boolD (e2 geD (eIxV 2 (eVar 7)) (e2 powD (eC (.int 10)) (eC (.int 18))))) (sSeq (sSet 5 (e2 modD (eN (oneD int2D) (aC (eIxV 2 (eVar 7)) a0)) (eC (.int 1000))))
  (sPut 2 (eVar 7) (e2 fdivD (eIxV 2 (eVar 7)) (eC (.int 1000))))) (sSeq (sSet 8 (e2 modD (eN (oneD int2D) (aC (e2 addD (e2 addD (e2 mul2D (eIxV 2 (eVar 7)) (eC (.int 48271))) (e2 mul2D (eVar 4) (eC (.int 69621)))) (eC (.int 11))) a0)) (eC (.int 2147483647))))
  (sSeq (sSet 8 (e2 modD (eN (oneD int2D) (aC (e2 addD (e2 mul2D (eVar 8) (eC (.int 16807))) (eVar 7)) a0)) (eC (.int 2147483629))))
  (sSet 5 (e2 modD (eN (oneD int2D) (aC (e2 fdivD (eVar 8) (eC (.int 7))) a0)) (eC (.int 1000)))))))) sNext)
  (sKill [7, 8] (sSeq (sApp 3 (eVar 5))
  (sKill [4, 5, 7, 8] sNext)))))
def T__law_draws_3 : Frm → Res Fl := (sKill [4, 5, 7, 8] (sRetO 3))
def T__law_draws_2 : Frm → Res Fl := (sKill [0, 4, 5, 6, 7, 8] (sSeq (sForR (Tg.nm 4) (iF r1D (eVar 1)) B__law_draws_0)
  T__law_draws_3))
def T__law_draws_1 : Frm → Res Fl := (sSeq (sSetL 3 (lN a0))
  T__law_draws_2)
def F__law_draws : Frm → Res Fl := (sSeq (sSetL 2 (lComp [6] (Tg.nm 6) (iF walkD (eVar 0)) tYesR (eVar 6)))
  T__law_draws_1)
noncomputable def m__law_draws : List D → Res RV := hid (defM 2 9 F__law_draws)
theorem u__law_draws : m__law_draws = defM 2 9 F__law_draws := hid_eq _
theorem kn__law_draws (z_int : mg "int" = none) (z_len : mg "len" = none) (z_range : mg "range" = none) (d : Dfn K mg "_law_draws" s__law_draws ["script", "count"]) : Known (TabList.mk CL P w) P w K mg base 1 "_law_draws" ["script", "count"] m__law_draws := Known.cast u__law_draws (known_of d sc__law_draws fun f cdv A outer s H E hr => by
  have C : CtE (cxOf (L2.CX P w) P w K mg base N__law_draws "_law_draws" (defScope s__law_draws) f cdv A outer s H E) := ⟨rfl, sc__law_draws.nd, room_ct hr⟩
  exact (dss_cons (ds_setLc 2 C (di_any (de_var 0)) (blkOk_by (N := N__law_draws) (sc := defScope s__law_draws) (own := [("cell", 6)]) (by decide +kernel)) (by decide) (fun _ _ _ _ _ => (pg_name (i := 6) C.blk.nd rfl (by first | exact Or.inl rfl | exact Or.inr rfl))) (fun _ _ _ _ _ => dts_nil) (fun _ _ _ _ _ => (de_var 6)) (sw_true rfl rfl rfl rfl))
  (dss_cons (ds_setL 3 (dl_lst da_nil) C)
  (dss_kill [0, 4, 5, 6, 7, 8] (dss_cons (ds_forR C (passes_of rfl) (fw_range1 (by rfl) z_range (de_var 1)) (pg_name (i := 4) C.nd rfl (by first | exact Or.inl rfl | exact Or.inr rfl)) (dss_cons (ds_set 5 de_int C)
  (dss_cons (ds_if (dt_cmp od_gt (de_callB cd_len (by rfl) z_len bt_len (da_cons (de_var 2) da_nil)) de_int) (dss_cons (ds_set 7 (de_bin od_mod (de_callTy cd_int2 (by rfl) z_int bt_int (da_cons (de_var 4) da_nil)) (de_callB cd_len (by rfl) z_len bt_len (da_cons (de_var 2) da_nil))) C)
  (dss_one (ds_if (dt_cmp od_ge (de_ixV 2 (de_var 7)) (de_bin od_pow de_int de_int)) (dss_cons (ds_set 5 (de_bin od_mod (de_callTy cd_int2 (by rfl) z_int bt_int (da_cons (de_ixV 2 (de_var 7)) da_nil)) de_int) C)
  (dss_one (ds_put 2 (de_bin od_fdiv (de_ixV 2 (de_var 7)) de_int) (de_var 7)))) (dss_cons (ds_set 8 (de_bin od_mod (de_callTy cd_int2 (by rfl) z_int bt_int (da_cons (de_bin od_add (de_bin od_add (de_bin od_mul2 (de_ixV 2 (de_var 7)) de_int) (de_bin od_mul2 (de_var 4) de_int)) de_int) da_nil)) de_int) C)
  (dss_cons (ds_set 8 (de_bin od_mod (de_callTy cd_int2 (by rfl) z_int bt_int (da_cons (de_bin od_add (de_bin od_mul2 (de_var 8) de_int) (de_var 7)) da_nil)) de_int) C)
  (dss_one (ds_set 5 (de_bin od_mod (de_callTy cd_int2 (by rfl) z_int bt_int (da_cons (de_bin od_fdiv (de_var 8) de_int) da_nil)) de_int) C))))))) dss_nil)
  (dss_kill [7, 8] (dss_cons (ds_app 3 (de_var 5))
  (dss_kill [4, 5, 7, 8] dss_nil))))))
  (dss_kill [4, 5, 7, 8] (dss_one (ds_retO 3))))))))
abbrev s__law_pool : Stmt := topS 8
abbrev N__law_pool : List Str := ["first", "second", "many", "signs", "size", "text", "place", "step", "k"]
theorem sc__law_pool : FnScope N__law_pool ["first", "second", "many"] (defScope s__law_pool) := ⟨rfl, rfl, rfl, by decide +kernel, rfl, by decide +kernel, by decide +kernel⟩
theorem bo__law_pool : BindOk "_law_pool" s__law_pool ["first", "second", "many"] := fun _ _ _ _ _ _ us hl => match us, hl with | [_, _, _], _ => rfl
def T__law_pool_6 : Frm → Res Fl := (sRetL (lComp [8] (Tg.nm 8) (iF r1D (eVar 2)) tYesR (e2 addD (e2 addD (eSlice (eVar 5) oNone (oSome (eVar 6))) (e2 atD (eVar 3) (e2 modD (eN (oneD int2D) (aC (e2 addD (eVar 1) (e2 mul2D (eVar 7) (eVar 8))) a0)) (eC (.int 36))))) (eSlice (eVar 5) (oSome (eVar 6)) oNone))))
def T__law_pool_5 : Frm → Res Fl := (sSeq (sSet 7 (e2 addD (eC (.int 1)) (e2 mul2D (eC (.int 4)) (e2 modD (eN (oneD int2D) (aC (e2 fdivD (eVar 1) (eC (.int 4))) a0)) (eC (.int 2))))))
  T__law_pool_6)
def T__law_pool_4 : Frm → Res Fl := (sSeq (sSet 6 (e2 modD (eN (oneD int2D) (aC (eVar 1) a0)) (e2 addD (eVar 4) (eC (.int 1)))))
  T__law_pool_5)
def T__law_pool_3 : Frm → Res Fl := (sSeq (sSet 5 (eJoin (eC (.str "")) (eL (lComp [8] (Tg.nm 8) (iF r1D (eVar 4)) tYesR (e2 atD (eVar 3) (e2 modD (eN (oneD int2D) (aC (e2 addD (eVar 0) (e2 mul2D (e2 mul2D (eC (.int 7)) (eVar 8)) (e2 addD (eC (.int 1)) (e2 modD (eN (oneD int2D) (aC (eVar 1) a0)) (eC (.int 3)))))) a0)) (eC (.int 36))))))))
  T__law_pool_4)
def T__law_pool_2 : Frm → Res Fl := (sSeq (sIf (tE boolD (e2 eqD (e2 modD (eN (oneD int2D) (aC (eVar 0) a0)) (eC (.int 9))) (eC (.int 8)))) (sSet 4 (eC (.int 11))) sNext)
  T__law_pool_3)
def T__law_pool_1 : Frm → Res Fl := (sSeq (sSet 4 (e2 modD (eN (oneD int2D) (aC (eVar 0) a0)) (eC (.int 4))))
  T__law_pool_2)
def F__law_pool : Frm → Res Fl := (sSeq (sSet 3 (eC (.str "abcdefghijklmnopqrstuvwxyz0123456789")))
  T__law_pool_1)
noncomputable def m__law_pool : List D → Res RV := hid (defM 3 9 F__law_pool)
theorem u__law_pool : m__law_pool = defM 3 9 F__law_pool := hid_eq _
theorem kn__law_pool (z_int : mg "int" = none) (z_range : mg "range" = none) (d : Dfn K mg "_law_pool" s__law_pool ["first", "second", "many"]) : Known (TabList.mk CL P w) P w K mg base 1 "_law_pool" ["first", "second", "many"] m__law_pool := Known.cast u__law_pool (known_of d sc__law_pool fun f cdv A outer s H E hr => by
  have C : CtE (cxOf (L2.CX P w) P w K mg base N__law_pool "_law_pool" (defScope s__law_pool) f cdv A outer s H E) := ⟨rfl, sc__law_pool.nd, room_ct hr⟩
  exact (dss_cons (ds_set 3 de_str C)
  (dss_cons (ds_set 4 (de_bin od_mod (de_callTy cd_int2 (by rfl) z_int bt_int (da_cons (de_var 0) da_nil)) de_int) C)
  (dss_cons (ds_if (dt_cmp (od_eq C) (de_bin od_mod (de_callTy cd_int2 (by rfl) z_int bt_int (da_cons (de_var 0) da_nil)) de_int) de_int) (dss_one (ds_set 4 de_int C)) dss_nil)
  (dss_cons (ds_set 5 (de_join de_str (dl_comp C (di_range1 (by rfl) z_range (de_var 4)) (blkOk_by (N := N__law_pool) (sc := defScope s__law_pool) (own := [("k", 8)]) (by decide +kernel)) (by decide) (fun _ _ _ _ _ => (pg_name (i := 8) C.blk.nd rfl (by first | exact Or.inl rfl | exact Or.inr rfl))) (fun _ _ _ _ _ => dts_nil) (fun _ _ _ _ _ => (de_ix (de_var 3) (de_bin od_mod (de_callTy cd_int2 (by rfl) z_int bt_int (da_cons (de_bin od_add (de_var 0) (de_bin od_mul2 (de_bin od_mul2 de_int (de_var 8)) (de_bin od_add de_int (de_bin od_mod (de_callTy cd_int2 (by rfl) z_int bt_int (da_cons (de_var 1) da_nil)) de_int)))) da_nil)) de_int)))).de) C)
  (dss_cons (ds_set 6 (de_bin od_mod (de_callTy cd_int2 (by rfl) z_int bt_int (da_cons (de_var 1) da_nil)) (de_bin od_add (de_var 4) de_int)) C)
  (dss_cons (ds_set 7 (de_bin od_add de_int (de_bin od_mul2 de_int (de_bin od_mod (de_callTy cd_int2 (by rfl) z_int bt_int (da_cons (de_bin od_fdiv (de_var 1) de_int) da_nil)) de_int))) C)
  (dss_one (ds_retL (dl_comp C (di_range1 (by rfl) z_range (de_var 2)) (blkOk_by (N := N__law_pool) (sc := defScope s__law_pool) (own := [("k", 8)]) (by decide +kernel)) (by decide) (fun _ _ _ _ _ => (pg_name (i := 8) C.blk.nd rfl (by first | exact Or.inl rfl | exact Or.inr rfl))) (fun _ _ _ _ _ => dts_nil) (fun _ _ _ _ _ => (de_bin od_add (de_bin od_add (de_slice (de_var 5) do_none (do_some (de_var 6))) (de_ix (de_var 3) (de_bin od_mod (de_callTy cd_int2 (by rfl) z_int bt_int (da_cons (de_bin od_add (de_var 1) (de_bin od_mul2 (de_var 7) (de_var 8))) da_nil)) de_int))) (de_slice (de_var 5) (do_some (de_var 6)) do_none)))))))))))))
abbrev s__law_schema : Stmt := topS 9
abbrev N__law_schema : List Str := ["draws", "pool", "schema", "k", "width", "key"]
theorem sc__law_schema : FnScope N__law_schema ["draws", "pool"] (defScope s__law_schema) := ⟨rfl, rfl, rfl, by decide +kernel, rfl, by decide +kernel, by decide +kernel⟩
theorem bo__law_schema : BindOk "_law_schema" s__law_schema ["draws", "pool"] := fun _ _ _ _ _ _ us hl => match us, hl with | [_, _], _ => rfl
def B__law_schema_0 : Frm → Res Fl := (sSeq (sSet 4 (e2 addD (eC (.int 1)) (e2 modD (eN (oneD int2D) (aC (e2 atD (eVar 0) (e2 addD (eC (.int 1)) (e2 mul2D (eC (.int 2)) (eVar 3)))) a0)) (eC (.int 4)))))
  (sSeq (sSet 5 (eC .none))
  (sSeq (sIf (tE boolD (e2 gtD (e2 modD (eN (oneD int2D) (aC (e2 atD (eVar 0) (e2 addD (eC (.int 2)) (e2 mul2D (eC (.int 2)) (eVar 3)))) a0)) (eC (.int 3))) (eC (.int 0)))) (sSet 5 (e2 addD (eC (.int 1)) (e2 modD (eN (oneD int2D) (aC (e2 fdivD (e2 atD (eVar 0) (e2 addD (eC (.int 2)) (e2 mul2D (eC (.int 2)) (eVar 3)))) (eC (.int 3))) a0)) (eVar 4)))) sNext)
  (sSeq (sApp 2 (eN tupD (aC (e2 atD (eVar 1) (eVar 3)) (aC (eVar 4) (aC (eVar 5) a0)))))
  (sKill [3, 4, 5] sNext)))))
def F__law_schema : Frm → Res Fl := (sSeq (sSetL 2 (lN a0))
  (sKill [3, 4, 5] (sSeq (sForR (Tg.nm 3) (iF r1D (e2 atD (eL (lN (aC (eC (.int 1)) (aC (eC (.int 2)) (aC (eC (.int 1)) (aC (eC (.int 2)) (aC (eC (.int 2)) (aC (eC (.int 3)) (aC (eC (.int 1)) (aC (eC (.int 4)) a0)))))))))) (e2 modD (eN (oneD int2D) (aC (e2 atD (eVar 0) (eC (.int 0))) a0)) (eC (.int 8))))) B__law_schema_0)
  (sKill [3, 4, 5] (sRetO 2)))))
noncomputable def m__law_schema : List D → Res RV := hid (defM 2 6 F__law_schema)
theorem u__law_schema : m__law_schema = defM 2 6 F__law_schema := hid_eq _
theorem kn__law_schema (z_int : mg "int" = none) (z_range : mg "range" = none) (d : Dfn K mg "_law_schema" s__law_schema ["draws", "pool"]) : Known (TabList.mk CL P w) P w K mg base 1 "_law_schema" ["draws", "pool"] m__law_schema := Known.cast u__law_schema (known_of d sc__law_schema fun f cdv A outer s H E hr => by
  have C : CtE (cxOf (L2.CX P w) P w K mg base N__law_schema "_law_schema" (defScope s__law_schema) f cdv A outer s H E) := ⟨rfl, sc__law_schema.nd, room_ct hr⟩
  exact (dss_cons (ds_setL 2 (dl_lst da_nil) C)
  (dss_kill [3, 4, 5] (dss_cons (ds_forR C (passes_of rfl) (fw_range1 (by rfl) z_range (de_ix (dl_lst (da_cons de_int (da_cons de_int (da_cons de_int (da_cons de_int (da_cons de_int (da_cons de_int (da_cons de_int (da_cons de_int da_nil))))))))).de (de_bin od_mod (de_callTy cd_int2 (by rfl) z_int bt_int (da_cons (de_ix (de_var 0) de_int) da_nil)) de_int))) (pg_name (i := 3) C.nd rfl (by first | exact Or.inl rfl | exact Or.inr rfl)) (dss_cons (ds_set 4 (de_bin od_add de_int (de_bin od_mod (de_callTy cd_int2 (by rfl) z_int bt_int (da_cons (de_ix (de_var 0) (de_bin od_add de_int (de_bin od_mul2 de_int (de_var 3)))) da_nil)) de_int)) C)
  (dss_cons (ds_set 5 de_non C)
  (dss_cons (ds_if (dt_cmp od_gt (de_bin od_mod (de_callTy cd_int2 (by rfl) z_int bt_int (da_cons (de_ix (de_var 0) (de_bin od_add de_int (de_bin od_mul2 de_int (de_var 3)))) da_nil)) de_int) de_int) (dss_one (ds_set 5 (de_bin od_add de_int (de_bin od_mod (de_callTy cd_int2 (by rfl) z_int bt_int (da_cons (de_bin od_fdiv (de_ix (de_var 0) (de_bin od_add de_int (de_bin od_mul2 de_int (de_var 3)))) de_int) da_nil)) (de_var 4))) C)) dss_nil)
  (dss_cons (ds_app 2 (de_tup (da_cons (de_ix (de_var 1) (de_var 3)) (da_cons (de_var 4) (da_cons (de_var 5) da_nil)))))
  (dss_kill [3, 4, 5] dss_nil))))))
  (dss_kill [3, 4, 5] (dss_one (ds_retO 2)))))))
abbrev s__law_fact : Stmt := topS 13
abbrev N__law_fact : List Str := ["schema", "words", "draws", "table", "k"]
theorem sc__law_fact : FnScope N__law_fact ["schema", "words", "draws"] (defScope s__law_fact) := ⟨rfl, rfl, rfl, by decide +kernel, rfl, by decide +kernel, by decide +kernel⟩
theorem bo__law_fact : BindOk "_law_fact" s__law_fact ["schema", "words", "draws"] := fun _ _ _ _ _ _ us hl => match us, hl with | [_, _, _], _ => rfl
def F__law_fact : Frm → Res Fl := (sSeq (sSet 3 (e2 atD (eVar 0) (e2 modD (eN (oneD int2D) (aC (e2 atD (eVar 2) (eC (.int 0))) a0)) (eN (oneD lenD) (aC (eVar 0) a0)))))
  (sRet (eN tupD (aC (e2 atD (eVar 3) (eC (.int 0))) (aC (eN (oneD fun d => (itemsD d).map .tuple) (aC (eL (lComp [4] (Tg.nm 4) (iF r1D (e2 atD (eVar 3) (eC (.int 1)))) tYesR (e2 atD (eVar 1) (e2 modD (eN (oneD int2D) (aC (e2 atD (eVar 2) (e2 addD (eC (.int 1)) (eVar 4))) a0)) (eN (oneD lenD) (aC (eVar 1) a0)))))) a0)) a0)))))
noncomputable def m__law_fact : List D → Res RV := hid (defM 3 5 F__law_fact)
theorem u__law_fact : m__law_fact = defM 3 5 F__law_fact := hid_eq _
theorem kn__law_fact (z_int : mg "int" = none) (z_len : mg "len" = none) (z_range : mg "range" = none) (z_tuple : mg "tuple" = none) (d : Dfn K mg "_law_fact" s__law_fact ["schema", "words", "draws"]) : Known (TabList.mk CL P w) P w K mg base 1 "_law_fact" ["schema", "words", "draws"] m__law_fact := Known.cast u__law_fact (known_of d sc__law_fact fun f cdv A outer s H E hr => by
  have C : CtE (cxOf (L2.CX P w) P w K mg base N__law_fact "_law_fact" (defScope s__law_fact) f cdv A outer s H E) := ⟨rfl, sc__law_fact.nd, room_ct hr⟩
  exact (dss_cons (ds_set 3 (de_ix (de_var 0) (de_bin od_mod (de_callTy cd_int2 (by rfl) z_int bt_int (da_cons (de_ix (de_var 2) de_int) da_nil)) (de_callB cd_len (by rfl) z_len bt_len (da_cons (de_var 0) da_nil)))) C)
  (dss_one (ds_ret (de_tup (da_cons (de_ix (de_var 3) de_int) (da_cons (de_callTy cd_tuple (by rfl) z_tuple bt_tuple (da_cons (dl_comp C (di_range1 (by rfl) z_range (de_ix (de_var 3) de_int)) (blkOk_by (N := N__law_fact) (sc := defScope s__law_fact) (own := [("k", 4)]) (by decide +kernel)) (by decide) (fun _ _ _ _ _ => (pg_name (i := 4) C.blk.nd rfl (by first | exact Or.inl rfl | exact Or.inr rfl))) (fun _ _ _ _ _ => dts_nil) (fun _ _ _ _ _ => (de_ix (de_var 1) (de_bin od_mod (de_callTy cd_int2 (by rfl) z_int bt_int (da_cons (de_ix (de_var 2) (de_bin od_add de_int (de_var 4))) da_nil)) (de_callB cd_len (by rfl) z_len bt_len (da_cons (de_var 1) da_nil)))))).de da_nil)) da_nil)))))))
abbrev s__law_facts : Stmt := topS 14
abbrev N__law_facts : List Str := ["schema", "words", "draws", "many", "k"]
theorem sc__law_facts : FnScope N__law_facts ["schema", "words", "draws", "many"] (defScope s__law_facts) := ⟨rfl, rfl, rfl, by decide +kernel, rfl, by decide +kernel, by decide +kernel⟩
theorem bo__law_facts : BindOk "_law_facts" s__law_facts ["schema", "words", "draws", "many"] := fun _ _ _ _ _ _ us hl => match us, hl with | [_, _, _, _], _ => rfl
def F__law_facts : Frm → Res Fl := (sRetL (lComp [4] (Tg.nm 4) (iF r1D (eVar 3)) tYesR (eCall m__law_fact (aC (eVar 0) (aC (eVar 1) (aC (eSlice (eVar 2) (oSome (e2 mul2D (eC (.int 5)) (eVar 4))) (oSome (e2 addD (e2 mul2D (eC (.int 5)) (eVar 4)) (eC (.int 5))))) a0))))))
noncomputable def m__law_facts : List D → Res RV := hid (defM 4 5 F__law_facts)
theorem u__law_facts : m__law_facts = defM 4 5 F__law_facts := hid_eq _
theorem kn__law_facts (z_range : mg "range" = none) (kn__law_fact : Known (TabList.mk CL P w) P w K mg base 1 "_law_fact" ["schema", "words", "draws"] m__law_fact) (d : Dfn K mg "_law_facts" s__law_facts ["schema", "words", "draws", "many"]) : Known (TabList.mk CL P w) P w K mg base 2 "_law_facts" ["schema", "words", "draws", "many"] m__law_facts := Known.cast u__law_facts (known_of d sc__law_facts fun f cdv A outer s H E hr => by
  have C : CtE (cxOf (L2.CX P w) P w K mg base N__law_facts "_law_facts" (defScope s__law_facts) f cdv A outer s H E) := ⟨rfl, sc__law_facts.nd, room_ct hr⟩
  exact (dss_one (ds_retL (dl_comp C (di_range1 (by rfl) z_range (de_var 3)) (blkOk_by (N := N__law_facts) (sc := defScope s__law_facts) (own := [("k", 4)]) (by decide +kernel)) (by decide) (fun _ _ _ _ _ => (pg_name (i := 4) C.blk.nd rfl (by first | exact Or.inl rfl | exact Or.inr rfl))) (fun _ _ _ _ _ => dts_nil) (fun _ _ _ _ _ => (de_call kn__law_fact hr (by decide) (by rfl) (da_cons (de_var 0) (da_cons (de_var 1) (da_cons (de_slice (de_var 2) (do_some (de_bin od_mul2 de_int (de_var 4))) (do_some (de_bin od_add (de_bin od_mul2 de_int (de_var 4)) de_int))) da_nil)))))))))
abbrev s__law_place : Stmt := topS 11
abbrev N__law_place : List Str := ["schema", "name", "place"]
theorem sc__law_place : FnScope N__law_place ["schema", "name"] (defScope s__law_place) := ⟨rfl, rfl, rfl, by decide +kernel, rfl, by decide +kernel, by decide +kernel⟩
theorem bo__law_place : BindOk "_law_place" s__law_place ["schema", "name"] := fun _ _ _ _ _ _ us hl => match us, hl with | [_, _], _ => rfl
def B__law_place_0 : Frm → Res Fl := (sSeq (sIf (tE boolD (e2 eqD (e2 atD (e2 atD (eVar 0) (eVar 2)) (eC (.int 0))) (eVar 1))) (sRet (eVar 2)) sNext)
  (sKill [2] sNext))
def F__law_place : Frm → Res Fl := (sKill [2] (sSeq (sForR (Tg.nm 2) (iF r1D (eN (oneD lenD) (aC (eVar 0) a0))) B__law_place_0)
  (sKill [2] (sRet (eN (oneD lenD) (aC (eVar 0) a0))))))
noncomputable def m__law_place : List D → Res RV := hid (defM 2 3 F__law_place)
theorem u__law_place : m__law_place = defM 2 3 F__law_place := hid_eq _
theorem kn__law_place (z_len : mg "len" = none) (z_range : mg "range" = none) (d : Dfn K mg "_law_place" s__law_place ["schema", "name"]) : Known (TabList.mk CL P w) P w K mg base 1 "_law_place" ["schema", "name"] m__law_place := Known.cast u__law_place (known_of d sc__law_place fun f cdv A outer s H E hr => by
  have C : CtE (cxOf (L2.CX P w) P w K mg base N__law_place "_law_place" (defScope s__law_place) f cdv A outer s H E) := ⟨rfl, sc__law_place.nd, room_ct hr⟩
  exact (dss_kill [2] (dss_cons (ds_forR C (passes_of rfl) (fw_range1 (by rfl) z_range (de_callB cd_len (by rfl) z_len bt_len (da_cons (de_var 0) da_nil))) (pg_name (i := 2) C.nd rfl (by first | exact Or.inl rfl | exact Or.inr rfl)) (dss_cons (ds_if (dt_cmp (od_eq C) (de_ix (de_ix (de_var 0) (de_var 2)) de_int) (de_var 1)) (dss_one (ds_ret (de_var 2))) dss_nil)
  (dss_kill [2] dss_nil)))
  (dss_kill [2] (dss_one (ds_ret (de_callB cd_len (by rfl) z_len bt_len (da_cons (de_var 0) da_nil))))))))
abbrev s__law_ascending : Stmt := topS 12
abbrev N__law_ascending : List Str := ["schema", "facts", "found", "place", "row", "fact"]
theorem sc__law_ascending : FnScope N__law_ascending ["schema", "facts"] (defScope s__law_ascending) := ⟨rfl, rfl, rfl, by decide +kernel, rfl, by decide +kernel, by decide +kernel⟩
theorem bo__law_ascending : BindOk "_law_ascending" s__law_ascending ["schema", "facts"] := fun _ _ _ _ _ _ us hl => match us, hl with | [_, _], _ => rfl
def B__law_ascending_0 : Frm → Res Fl := (sSeq (sIf (tE boolD (e2 notInD (eN tupD (aC (e2 atD (e2 atD (eVar 0) (eVar 3)) (eC (.int 0))) (aC (eVar 4) a0))) (eVar 2))) (sApp 2 (eN tupD (aC (e2 atD (e2 atD (eVar 0) (eVar 3)) (eC (.int 0))) (aC (eVar 4) a0)))) sNext)
  (sKill [3, 4] sNext))
def F__law_ascending : Frm → Res Fl := (sSeq (sSetL 2 (lN a0))
  (sKill [3, 4, 5] (sSeq (sFor (Tg.tp [3, 4]) (iF walkD (eL (lF (oneL sortL) (aC (eL (lComp [5] (Tg.nm 5) (iF walkD (eVar 1)) tYesR (eN tupD (aC (eCall m__law_place (aC (eVar 0) (aC (e2 atD (eVar 5) (eC (.int 0))) a0))) (aC (e2 atD (eVar 5) (eC (.int 1))) a0))))) a0)))) B__law_ascending_0)
  (sKill [3, 4] (sRetO 2)))))
noncomputable def m__law_ascending : List D → Res RV := hid (defM 2 6 F__law_ascending)
theorem u__law_ascending : m__law_ascending = defM 2 6 F__law_ascending := hid_eq _
theorem kn__law_ascending (z_sorted : mg "sorted" = none) (kn__law_place : Known (TabList.mk CL P w) P w K mg base 1 "_law_place" ["schema", "name"] m__law_place) (d : Dfn K mg "_law_ascending" s__law_ascending ["schema", "facts"]) : Known (TabList.mk CL P w) P w K mg base 2 "_law_ascending" ["schema", "facts"] m__law_ascending := Known.cast u__law_ascending (known_of d sc__law_ascending fun f cdv A outer s H E hr => by
  have C : CtE (cxOf (L2.CX P w) P w K mg base N__law_ascending "_law_ascending" (defScope s__law_ascending) f cdv A outer s H E) := ⟨rfl, sc__law_ascending.nd, room_ct hr⟩
  exact (dss_cons (ds_setL 2 (dl_lst da_nil) C)
  (dss_kill [3, 4, 5] (dss_cons (ds_for C (passes_of rfl) (di_any (dl_callB (cl_sorted C) (by rfl) z_sorted bt_sorted (da_cons (dl_comp C (di_any (de_var 1)) (blkOk_by (N := N__law_ascending) (sc := defScope s__law_ascending) (own := [("fact", 5)]) (by decide +kernel)) (by decide) (fun _ _ _ _ _ => (pg_name (i := 5) C.blk.nd rfl (by first | exact Or.inl rfl | exact Or.inr rfl))) (fun _ _ _ _ _ => dts_nil) (fun _ _ _ _ _ => (de_tup (da_cons (de_call kn__law_place hr (by decide) (by rfl) (da_cons (de_var 0) (da_cons (de_ix (de_var 5) de_int) da_nil))) (da_cons (de_ix (de_var 5) de_int) da_nil))))).de da_nil)).de) (pg_tup C.calm (pgs_cons (pg_name (i := 3) C.nd rfl (by first | exact Or.inl rfl | exact Or.inr rfl)) (pgs_cons (pg_name (i := 4) C.nd rfl (by first | exact Or.inl rfl | exact Or.inr rfl)) pgs_nil))) (dss_cons (ds_if (dt_cmp (od_notIn C) (de_tup (da_cons (de_ix (de_ix (de_var 0) (de_var 3)) de_int) (da_cons (de_var 4) da_nil))) (de_var 2)) (dss_one (ds_app 2 (de_tup (da_cons (de_ix (de_ix (de_var 0) (de_var 3)) de_int) (da_cons (de_var 4) da_nil))))) dss_nil)
  (dss_kill [3, 4] dss_nil)))
  (dss_kill [3, 4] (dss_one (ds_retO 2)))))))
abbrev s__law_same_key : Stmt := topS 10
abbrev N__law_same_key : List Str := ["schema", "first", "second", "name", "width", "key"]
theorem sc__law_same_key : FnScope N__law_same_key ["schema", "first", "second"] (defScope s__law_same_key) := ⟨rfl, rfl, rfl, by decide +kernel, rfl, by decide +kernel, by decide +kernel⟩
theorem bo__law_same_key : BindOk "_law_same_key" s__law_same_key ["schema", "first", "second"] := fun _ _ _ _ _ _ us hl => match us, hl with | [_, _, _], _ => rfl
def B__law_same_key_0 : Frm → Res Fl := (sSeq (sIf (tAndR (tE boolD (e2 eqD (e2 atD (eVar 1) (eC (.int 0))) (eVar 3))) (tAndR (tE boolD (e2 eqD (e2 atD (eVar 2) (eC (.int 0))) (eVar 3))) (tE boolD (e2 notBD (eVar 5) (eC .none))))) (sRet (e2 eqD (eSlice (e2 atD (eVar 1) (eC (.int 1))) oNone (oSome (eVar 5))) (eSlice (e2 atD (eVar 2) (eC (.int 1))) oNone (oSome (eVar 5))))) sNext)
  (sKill [3, 4, 5] sNext))
def F__law_same_key : Frm → Res Fl := (sKill [3, 4, 5] (sSeq (sFor (Tg.tp [3, 4, 5]) (iF walkD (eVar 0)) B__law_same_key_0)
  (sKill [3, 4, 5] (sRet (eC (.bool false))))))
noncomputable def m__law_same_key : List D → Res RV := hid (defM 3 6 F__law_same_key)
theorem u__law_same_key : m__law_same_key = defM 3 6 F__law_same_key := hid_eq _
theorem kn__law_same_key  (d : Dfn K mg "_law_same_key" s__law_same_key ["schema", "first", "second"]) : Known (TabList.mk CL P w) P w K mg base 1 "_law_same_key" ["schema", "first", "second"] m__law_same_key := Known.cast u__law_same_key (known_of d sc__law_same_key fun f cdv A outer s H E hr => by
  have C : CtE (cxOf (L2.CX P w) P w K mg base N__law_same_key "_law_same_key" (defScope s__law_same_key) f cdv A outer s H E) := ⟨rfl, sc__law_same_key.nd, room_ct hr⟩
  exact (dss_kill [3, 4, 5] (dss_cons (ds_for C (passes_of rfl) (di_any (de_var 0)) (pg_tup C.calm (pgs_cons (pg_name (i := 3) C.nd rfl (by first | exact Or.inl rfl | exact Or.inr rfl)) (pgs_cons (pg_name (i := 4) C.nd rfl (by first | exact Or.inl rfl | exact Or.inr rfl)) (pgs_cons (pg_name (i := 5) C.nd rfl (by first | exact Or.inl rfl | exact Or.inr rfl)) pgs_nil)))) (dss_cons (ds_if (dw_and (dt_cmp (od_eq C) (de_ix (de_var 1) de_int) (de_var 3)) (dw_and (dt_cmp (od_eq C) (de_ix (de_var 2) de_int) (de_var 3)) (dw_and1 (dt_cmp od_notB (de_var 5) de_non)))).dt (dss_one (ds_ret (de_cmp (od_eq C) (de_slice (de_ix (de_var 1) de_int) do_none (do_some (de_var 5))) (de_slice (de_ix (de_var 2) de_int) do_none (do_some (de_var 5)))))) dss_nil)
  (dss_kill [3, 4, 5] dss_nil)))
  (dss_kill [3, 4, 5] (dss_one (ds_ret de_bl))))))
abbrev s__law_database : Stmt := topS 15
abbrev N__law_database : List Str := ["schema", "words", "draws", "many", "facts", "fact", "other"]
theorem sc__law_database : FnScope N__law_database ["schema", "words", "draws", "many"] (defScope s__law_database) := ⟨rfl, rfl, rfl, by decide +kernel, rfl, by decide +kernel, by decide +kernel⟩
theorem bo__law_database : BindOk "_law_database" s__law_database ["schema", "words", "draws", "many"] := fun _ _ _ _ _ _ us hl => match us, hl with | [_, _, _, _], _ => rfl
def B__law_database_0 : Frm → Res Fl := (sSeq (sIf (tNotR (tE truD (eN (oneD anyD) (aC (eL (lComp [6] (Tg.nm 6) (iF walkD (eVar 4)) tYesR (eCall m__law_same_key (aC (eVar 0) (aC (eVar 6) (aC (eVar 5) a0)))))) a0)))) (sApp 4 (eVar 5)) sNext)
  (sKill [5] sNext))
def F__law_database : Frm → Res Fl := (sSeq (sSetL 4 (lN a0))
  (sKill [5, 6] (sSeq (sFor (Tg.nm 5) (iF walkD (eCall m__law_facts (aC (eVar 0) (aC (eVar 1) (aC (eVar 2) (aC (eVar 3) a0)))))) B__law_database_0)
  (sKill [5] (sFrz 4 (sRet (eCall m__law_ascending (aC (eVar 0) (aC (eVar 4) a0)))))))))
noncomputable def m__law_database : List D → Res RV := hid (defM 4 7 F__law_database)
theorem u__law_database : m__law_database = defM 4 7 F__law_database := hid_eq _
theorem kn__law_database (z_any : mg "any" = none) (kn__law_ascending : Known (TabList.mk CL P w) P w K mg base 2 "_law_ascending" ["schema", "facts"] m__law_ascending) (kn__law_facts : Known (TabList.mk CL P w) P w K mg base 2 "_law_facts" ["schema", "words", "draws", "many"] m__law_facts) (kn__law_same_key : Known (TabList.mk CL P w) P w K mg base 1 "_law_same_key" ["schema", "first", "second"] m__law_same_key) (d : Dfn K mg "_law_database" s__law_database ["schema", "words", "draws", "many"]) : Known (TabList.mk CL P w) P w K mg base 3 "_law_database" ["schema", "words", "draws", "many"] m__law_database := Known.cast u__law_database (known_of d sc__law_database fun f cdv A outer s H E hr => by
  have C : CtE (cxOf (L2.CX P w) P w K mg base N__law_database "_law_database" (defScope s__law_database) f cdv A outer s H E) := ⟨rfl, sc__law_database.nd, room_ct hr⟩
  exact (dss_cons (ds_setL 4 (dl_lst da_nil) C)
  (dss_kill [5, 6] (dss_cons (ds_for C (passes_of rfl) (di_any (de_call kn__law_facts hr (by decide) (by rfl) (da_cons (de_var 0) (da_cons (de_var 1) (da_cons (de_var 2) (da_cons (de_var 3) da_nil)))))) (pg_name (i := 5) C.nd rfl (by first | exact Or.inl rfl | exact Or.inr rfl)) (dss_cons (ds_if (dt_not (dt_tru (de_callB (cd_any C) (by rfl) z_any bt_any (da_cons (dl_comp C (di_any (de_var 4)) (blkOk_by (N := N__law_database) (sc := defScope s__law_database) (own := [("other", 6)]) (by decide +kernel)) (by decide) (fun _ _ _ _ _ => (pg_name (i := 6) C.blk.nd rfl (by first | exact Or.inl rfl | exact Or.inr rfl))) (fun _ _ _ _ _ => dts_nil) (fun _ _ _ _ _ => (de_call kn__law_same_key hr (by decide) (by rfl) (da_cons (de_var 0) (da_cons (de_var 6) (da_cons (de_var 5) da_nil)))))).de da_nil)))) (dss_one (ds_app 4 (de_var 5))) dss_nil)
  (dss_kill [5] dss_nil)))
  (dss_kill [5] (dss_frz (i := 4) (dss_one (ds_ret (de_call kn__law_ascending hr (by decide) (by rfl) (da_cons (de_var 0) (da_cons (de_var 4) da_nil)))))))))))
abbrev s_place_of : Stmt := topS 1
abbrev N_place_of : List Str := ["schema", "name", "place", "table"]
theorem sc_place_of : FnScope N_place_of ["schema", "name"] (defScope s_place_of) := ⟨rfl, rfl, rfl, by decide +kernel, rfl, by decide +kernel, by decide +kernel⟩
theorem bo_place_of : BindOk "place_of" s_place_of ["schema", "name"] := fun _ _ _ _ _ _ us hl => match us, hl with | [_, _], _ => rfl
def B_place_of_0 : Frm → Res Fl := (sSeq (sIf (tE boolD (e2 eqD (e2 atD (eVar 3) (eC (.int 0))) (eVar 1))) (sRet (eVar 2)) sNext)
  (sKill [2, 3] sNext))
def F_place_of : Frm → Res Fl := (sKill [2, 3] (sSeq (sFor (Tg.tp [2, 3]) (iF enumD (eVar 0)) B_place_of_0)
  (sKill [2, 3] (sRet (eC .none)))))
noncomputable def m_place_of : List D → Res RV := hid (defM 2 4 F_place_of)
theorem u_place_of : m_place_of = defM 2 4 F_place_of := hid_eq _
theorem kn_place_of (z_enumerate : mg "enumerate" = none) (d : Dfn K mg "place_of" s_place_of ["schema", "name"]) : Known (TabList.mk CL P w) P w K mg base 1 "place_of" ["schema", "name"] m_place_of := Known.cast u_place_of (known_of d sc_place_of fun f cdv A outer s H E hr => by
  have C : CtE (cxOf (L2.CX P w) P w K mg base N_place_of "place_of" (defScope s_place_of) f cdv A outer s H E) := ⟨rfl, sc_place_of.nd, room_ct hr⟩
  exact (dss_kill [2, 3] (dss_cons (ds_for C (passes_of rfl) (di_enum (by rfl) z_enumerate (de_var 0)) (pg_tup C.calm (pgs_cons (pg_name (i := 2) C.nd rfl (by first | exact Or.inl rfl | exact Or.inr rfl)) (pgs_cons (pg_name (i := 3) C.nd rfl (by first | exact Or.inl rfl | exact Or.inr rfl)) pgs_nil))) (dss_cons (ds_if (dt_cmp (od_eq C) (de_ix (de_var 3) de_int) (de_var 1)) (dss_one (ds_ret (de_var 2))) dss_nil)
  (dss_kill [2, 3] dss_nil)))
  (dss_kill [2, 3] (dss_one (ds_ret de_non))))))
abbrev s_ascending : Stmt := topS 2
abbrev N_ascending : List Str := ["schema", "facts", "ordered", "place", "row", "name"]
theorem sc_ascending : FnScope N_ascending ["schema", "facts"] (defScope s_ascending) := ⟨rfl, rfl, rfl, by decide +kernel, rfl, by decide +kernel, by decide +kernel⟩
theorem bo_ascending : BindOk "ascending" s_ascending ["schema", "facts"] := fun _ _ _ _ _ _ us hl => match us, hl with | [_, _], _ => rfl
def F_ascending : Frm → Res Fl := (sSeq (sSet 2 (eL (lSortC [5, 4] (Tg.tp [5, 4]) (iF walkD (eVar 1)) tYesR (eN tupD (aC (eCall m_place_of (aC (eVar 0) (aC (eVar 5) a0))) (aC (eVar 4) a0))))))
  (sRetL (lComp [3, 4] (Tg.tp [3, 4]) (iF walkD (eVar 2)) tYesR (eN tupD (aC (e2 atD (e2 atD (eVar 0) (eVar 3)) (eC (.int 0))) (aC (eVar 4) a0))))))
noncomputable def m_ascending : List D → Res RV := hid (defM 2 6 F_ascending)
theorem u_ascending : m_ascending = defM 2 6 F_ascending := hid_eq _
theorem kn_ascending (z_sorted : mg "sorted" = none) (kn_place_of : Known (TabList.mk CL P w) P w K mg base 1 "place_of" ["schema", "name"] m_place_of) (d : Dfn K mg "ascending" s_ascending ["schema", "facts"]) : Known (TabList.mk CL P w) P w K mg base 2 "ascending" ["schema", "facts"] m_ascending := Known.cast u_ascending (known_of d sc_ascending fun f cdv A outer s H E hr => by
  have C : CtE (cxOf (L2.CX P w) P w K mg base N_ascending "ascending" (defScope s_ascending) f cdv A outer s H E) := ⟨rfl, sc_ascending.nd, room_ct hr⟩
  exact (dss_cons (ds_set 2 (dl_sortedK C (by rfl) z_sorted bt_sorted (di_any (de_var 1)) (blkOk_by (N := N_ascending) (sc := defScope s_ascending) (own := [("name", 5), ("row", 4)]) (by decide +kernel)) (by decide) (fun _ _ _ _ _ => (pg_tup C.blk.calm (pgs_cons (pg_name (i := 5) C.blk.nd rfl (by first | exact Or.inl rfl | exact Or.inr rfl)) (pgs_cons (pg_name (i := 4) C.blk.nd rfl (by first | exact Or.inl rfl | exact Or.inr rfl)) pgs_nil)))) (fun _ _ _ _ _ => dts_nil) (fun _ _ _ _ _ => (de_tup (da_cons (de_call kn_place_of hr (by decide) (by rfl) (da_cons (de_var 0) (da_cons (de_var 5) da_nil))) (da_cons (de_var 4) da_nil))))).de C)
  (dss_one (ds_retL (dl_comp C (di_any (de_var 2)) (blkOk_by (N := N_ascending) (sc := defScope s_ascending) (own := [("place", 3), ("row", 4)]) (by decide +kernel)) (by decide) (fun _ _ _ _ _ => (pg_tup C.blk.calm (pgs_cons (pg_name (i := 3) C.blk.nd rfl (by first | exact Or.inl rfl | exact Or.inr rfl)) (pgs_cons (pg_name (i := 4) C.blk.nd rfl (by first | exact Or.inl rfl | exact Or.inr rfl)) pgs_nil)))) (fun _ _ _ _ _ => dts_nil) (fun _ _ _ _ _ => (de_tup (da_cons (de_ix (de_ix (de_var 0) (de_var 3)) de_int) (da_cons (de_var 4) da_nil)))))))))
abbrev s_without : Stmt := topS 3
abbrev N_without : List Str := ["these", "others", "left_out", "each"]
theorem sc_without : FnScope N_without ["these", "others"] (defScope s_without) := ⟨rfl, rfl, rfl, by decide +kernel, rfl, by decide +kernel, by decide +kernel⟩
theorem bo_without : BindOk "without" s_without ["these", "others"] := fun _ _ _ _ _ _ us hl => match us, hl with | [_, _], _ => rfl
def F_without : Frm → Res Fl := (sSeq (sSetS 2 (eVar 1))
  (sRetL (lComp [3] (Tg.nm 3) (iF walkD (eVar 0)) (eInS true 2 (eVar 3)) (eVar 3))))
noncomputable def m_without : List D → Res RV := hid (defM 2 4 F_without)
theorem u_without : m_without = defM 2 4 F_without := hid_eq _
theorem kn_without (z_set : mg "set" = none) (d : Dfn K mg "without" s_without ["these", "others"]) : Known (TabList.mk CL P w) P w K mg base 1 "without" ["these", "others"] m_without := Known.cast u_without (known_of d sc_without fun f cdv A outer s H E hr => by
  have C : CtE (cxOf (L2.CX P w) P w K mg base N_without "without" (defScope s_without) f cdv A outer s H E) := ⟨rfl, sc_without.nd, room_ct hr⟩
  exact (dss_cons (ds_setS 2 rfl rfl (de_var 1) C (by rfl) z_set bt_set)
  (dss_one (ds_retL (dl_comp C (di_any (de_var 0)) (blkOk_by (N := N_without) (sc := defScope s_without) (own := [("each", 3)]) (by decide +kernel)) (by decide) (fun _ _ _ _ _ => (pg_name (i := 3) C.blk.nd rfl (by first | exact Or.inl rfl | exact Or.inr rfl))) (fun _ _ _ _ _ => (dts_one (dt_notInS 2 rfl rfl C.un (de_var 3)))) (fun _ _ _ _ _ => (de_var 3)))))))
abbrev s_after : Stmt := topS 4
abbrev N_after : List Str := ["schema", "database", "change", "deleted", "inserted"]
theorem sc_after : FnScope N_after ["schema", "database", "change"] (defScope s_after) := ⟨rfl, rfl, rfl, by decide +kernel, rfl, by decide +kernel, by decide +kernel⟩
theorem bo_after : BindOk "after" s_after ["schema", "database", "change"] := fun _ _ _ _ _ _ us hl => match us, hl with | [_, _, _], _ => rfl
def F_after : Frm → Res Fl := (sSeq (sSetT (Tg.tp [3, 4]) (eVar 2))
  (sRet (eCall m_ascending (aC (eVar 0) (aC (e2 addD (eCall m_without (aC (eVar 1) (aC (eVar 3) a0))) (eVar 4)) a0)))))
noncomputable def m_after : List D → Res RV := hid (defM 3 5 F_after)
theorem u_after : m_after = defM 3 5 F_after := hid_eq _
theorem kn_after (kn_ascending : Known (TabList.mk CL P w) P w K mg base 2 "ascending" ["schema", "facts"] m_ascending) (kn_without : Known (TabList.mk CL P w) P w K mg base 1 "without" ["these", "others"] m_without) (d : Dfn K mg "after" s_after ["schema", "database", "change"]) : Known (TabList.mk CL P w) P w K mg base 3 "after" ["schema", "database", "change"] m_after := Known.cast u_after (known_of d sc_after fun f cdv A outer s H E hr => by
  have C : CtE (cxOf (L2.CX P w) P w K mg base N_after "after" (defScope s_after) f cdv A outer s H E) := ⟨rfl, sc_after.nd, room_ct hr⟩
  exact (dss_cons (ds_setT (de_var 2) (pg_tup C.calm (pgs_cons (pg_name (i := 3) C.nd rfl (by first | exact Or.inl rfl | exact Or.inr rfl)) (pgs_cons (pg_name (i := 4) C.nd rfl (by first | exact Or.inl rfl | exact Or.inr rfl)) pgs_nil))))
  (dss_one (ds_ret (de_call kn_ascending hr (by decide) (by rfl) (da_cons (de_var 0) (da_cons (de_bin od_add (de_call kn_without hr (by decide) (by rfl) (da_cons (de_var 1) (da_cons (de_var 3) da_nil))) (de_var 4)) da_nil)))))))
abbrev s_inverse : Stmt := topS 5
abbrev N_inverse : List Str := ["change", "deleted", "inserted"]
theorem sc_inverse : FnScope N_inverse ["change"] (defScope s_inverse) := ⟨rfl, rfl, rfl, by decide +kernel, rfl, by decide +kernel, by decide +kernel⟩
theorem bo_inverse : BindOk "inverse" s_inverse ["change"] := fun _ _ _ _ _ _ us hl => match us, hl with | [_], _ => rfl
def F_inverse : Frm → Res Fl := (sSeq (sSetT (Tg.tp [1, 2]) (eVar 0))
  (sRetU (u2 (lF (oneL itemsD) (aC (eVar 2) a0)) (lF (oneL itemsD) (aC (eVar 1) a0)))))
noncomputable def m_inverse : List D → Res RV := hid (defM 1 3 F_inverse)
theorem u_inverse : m_inverse = defM 1 3 F_inverse := hid_eq _
theorem kn_inverse (z_list : mg "list" = none) (d : Dfn K mg "inverse" s_inverse ["change"]) : Known (TabList.mk CL P w) P w K mg base 1 "inverse" ["change"] m_inverse := Known.cast u_inverse (known_of d sc_inverse fun f cdv A outer s H E hr => by
  have C : CtE (cxOf (L2.CX P w) P w K mg base N_inverse "inverse" (defScope s_inverse) f cdv A outer s H E) := ⟨rfl, sc_inverse.nd, room_ct hr⟩
  exact (dss_cons (ds_setT (de_var 0) (pg_tup C.calm (pgs_cons (pg_name (i := 1) C.nd rfl (by first | exact Or.inl rfl | exact Or.inr rfl)) (pgs_cons (pg_name (i := 2) C.nd rfl (by first | exact Or.inl rfl | exact Or.inr rfl)) pgs_nil))))
  (dss_one (ds_retU (du_tup2 (dl_callTy cl_list (by rfl) z_list bt_list (da_cons (de_var 2) da_nil)) (dl_callTy cl_list (by rfl) z_list bt_list (da_cons (de_var 1) da_nil)))))))
abbrev s__law_is_facts : Stmt := topS 16
abbrev N__law_is_facts : List Str := ["actual", "fact", "word"]
theorem sc__law_is_facts : FnScope N__law_is_facts ["actual"] (defScope s__law_is_facts) := ⟨rfl, rfl, rfl, by decide +kernel, rfl, by decide +kernel, by decide +kernel⟩
theorem bo__law_is_facts : BindOk "_law_is_facts" s__law_is_facts ["actual"] := fun _ _ _ _ _ _ us hl => match us, hl with | [_], _ => rfl
def B__law_is_facts_0 : Frm → Res Fl := (sSeq (sIf (tOrR (tNotR (tE truD (e1 (isiD "tuple") (eVar 1)))) (tOrR (tE boolD (e2 neD (eN (oneD lenD) (aC (eVar 1) a0)) (eC (.int 2)))) (tNotR (tE truD (e1 (isiD "str") (e2 atD (eVar 1) (eC (.int 0)))))))) (sRet (eC (.bool false))) sNext)
  (sSeq (sIf (tOrR (tNotR (tE truD (e1 (isiD "tuple") (e2 atD (eVar 1) (eC (.int 1)))))) (tNotR (tE truD (eN (oneD allD) (aC (eL (lComp [2] (Tg.nm 2) (iF walkD (e2 atD (eVar 1) (eC (.int 1)))) tYesR (e1 (isiD "str") (eVar 2)))) a0))))) (sRet (eC (.bool false))) sNext)
  (sKill [1] sNext)))
def F__law_is_facts : Frm → Res Fl := (sSeq (sIf (tNotR (tE truD (e1 (isiD "list") (eVar 0)))) (sRet (eC (.bool false))) sNext)
  (sKill [1, 2] (sSeq (sFor (Tg.nm 1) (iF walkD (eVar 0)) B__law_is_facts_0)
  (sKill [1] (sRet (eC (.bool true)))))))
noncomputable def m__law_is_facts : List D → Res RV := hid (defM 1 3 F__law_is_facts)
theorem u__law_is_facts : m__law_is_facts = defM 1 3 F__law_is_facts := hid_eq _
theorem kn__law_is_facts (z_all : mg "all" = none) (z_isinstance : mg "isinstance" = none) (z_len : mg "len" = none) (z_list : mg "list" = none) (z_str : mg "str" = none) (z_tuple : mg "tuple" = none) (d : Dfn K mg "_law_is_facts" s__law_is_facts ["actual"]) : Known (TabList.mk CL P w) P w K mg base 1 "_law_is_facts" ["actual"] m__law_is_facts := Known.cast u__law_is_facts (known_of d sc__law_is_facts fun f cdv A outer s H E hr => by
  have C : CtE (cxOf (L2.CX P w) P w K mg base N__law_is_facts "_law_is_facts" (defScope s__law_is_facts) f cdv A outer s H E) := ⟨rfl, sc__law_is_facts.nd, room_ct hr⟩
  exact (dss_cons (ds_if (dt_not (dt_tru (de_isi kit_list (by rfl) z_isinstance (by rfl) z_list bt_list (de_var 0)))) (dss_one (ds_ret de_bl)) dss_nil)
  (dss_kill [1, 2] (dss_cons (ds_for C (passes_of rfl) (di_any (de_var 0)) (pg_name (i := 1) C.nd rfl (by first | exact Or.inl rfl | exact Or.inr rfl)) (dss_cons (ds_if (dw_or (dt_not (dt_tru (de_isi kit_tuple (by rfl) z_isinstance (by rfl) z_tuple bt_tuple (de_var 1)))) (dw_or (dt_cmp (od_ne C) (de_callB cd_len (by rfl) z_len bt_len (da_cons (de_var 1) da_nil)) de_int) (dw_or1 (dt_not (dt_tru (de_isi kit_str (by rfl) z_isinstance (by rfl) z_str bt_str (de_ix (de_var 1) de_int))))))).dt (dss_one (ds_ret de_bl)) dss_nil)
  (dss_cons (ds_if (dw_or (dt_not (dt_tru (de_isi kit_tuple (by rfl) z_isinstance (by rfl) z_tuple bt_tuple (de_ix (de_var 1) de_int)))) (dw_or1 (dt_not (dt_tru (de_callB (cd_all C) (by rfl) z_all bt_all (da_cons (dl_comp C (di_any (de_ix (de_var 1) de_int)) (blkOk_by (N := N__law_is_facts) (sc := defScope s__law_is_facts) (own := [("word", 2)]) (by decide +kernel)) (by decide) (fun _ _ _ _ _ => (pg_name (i := 2) C.blk.nd rfl (by first | exact Or.inl rfl | exact Or.inr rfl))) (fun _ _ _ _ _ => dts_nil) (fun _ _ _ _ _ => (de_isi kit_str (by rfl) z_isinstance (by rfl) z_str bt_str (de_var 2)))).de da_nil)))))).dt (dss_one (ds_ret de_bl)) dss_nil)
  (dss_kill [1] dss_nil))))
  (dss_kill [1] (dss_one (ds_ret de_bl)))))))
abbrev s__law_is_change : Stmt := topS 17
abbrev N__law_is_change : List Str := ["actual"]
theorem sc__law_is_change : FnScope N__law_is_change ["actual"] (defScope s__law_is_change) := ⟨rfl, rfl, rfl, by decide +kernel, rfl, by decide +kernel, by decide +kernel⟩
theorem bo__law_is_change : BindOk "_law_is_change" s__law_is_change ["actual"] := fun _ _ _ _ _ _ us hl => match us, hl with | [_], _ => rfl
def F__law_is_change : Frm → Res Fl := (sSeq (sIf (tOrR (tNotR (tE truD (e1 (isiD "tuple") (eVar 0)))) (tE boolD (e2 neD (eN (oneD lenD) (aC (eVar 0) a0)) (eC (.int 2))))) (sRet (eC (.bool false))) sNext)
  (sRet (eAnd (eCall m__law_is_facts (aC (e2 atD (eVar 0) (eC (.int 0))) a0)) (eCall m__law_is_facts (aC (e2 atD (eVar 0) (eC (.int 1))) a0)))))
noncomputable def m__law_is_change : List D → Res RV := hid (defM 1 1 F__law_is_change)
theorem u__law_is_change : m__law_is_change = defM 1 1 F__law_is_change := hid_eq _
theorem kn__law_is_change (z_isinstance : mg "isinstance" = none) (z_len : mg "len" = none) (z_tuple : mg "tuple" = none) (kn__law_is_facts : Known (TabList.mk CL P w) P w K mg base 1 "_law_is_facts" ["actual"] m__law_is_facts) (d : Dfn K mg "_law_is_change" s__law_is_change ["actual"]) : Known (TabList.mk CL P w) P w K mg base 2 "_law_is_change" ["actual"] m__law_is_change := Known.cast u__law_is_change (known_of d sc__law_is_change fun f cdv A outer s H E hr => by
  have C : CtE (cxOf (L2.CX P w) P w K mg base N__law_is_change "_law_is_change" (defScope s__law_is_change) f cdv A outer s H E) := ⟨rfl, sc__law_is_change.nd, room_ct hr⟩
  exact (dss_cons (ds_if (dw_or (dt_not (dt_tru (de_isi kit_tuple (by rfl) z_isinstance (by rfl) z_tuple bt_tuple (de_var 0)))) (dw_or1 (dt_cmp (od_ne C) (de_callB cd_len (by rfl) z_len bt_len (da_cons (de_var 0) da_nil)) de_int))).dt (dss_one (ds_ret de_bl)) dss_nil)
  (dss_one (ds_ret (de_and (de_call kn__law_is_facts hr (by decide) (by rfl) (da_cons (de_ix (de_var 0) de_int) da_nil)) (de_one (de_call kn__law_is_facts hr (by decide) (by rfl) (da_cons (de_ix (de_var 0) de_int) da_nil))))))))
abbrev s_law : Stmt := topS 18
abbrev N_law : List Str := ["script", "draws", "pool", "words", "schema", "many", "database", "deleted", "others", "inserted", "change", "due", "actual", "back", "k", "fact"]
theorem sc_law : FnScope N_law ["script"] (defScope s_law) := ⟨rfl, rfl, rfl, by decide +kernel, rfl, by decide +kernel, by decide +kernel⟩
theorem bo_law : BindOk "law" s_law ["script"] := fun _ _ _ _ _ _ us hl => match us, hl with | [_], _ => rfl
def T_law_20 : Frm → Res Fl := (sRet (eAnd (e2 eqD (eCall m_after (aC (eVar 4) (aC (eVar 6) (aC (eN tupD (aC (eL (lN a0)) (aC (eL (lN a0)) a0))) a0)))) (eVar 6)) (e2 eqD (eCall m_inverse (aC (eN tupD (aC (eL (lN a0)) (aC (eL (lN a0)) a0))) a0)) (eN tupD (aC (eL (lN a0)) (aC (eL (lN a0)) a0))))))
def T_law_19 : Frm → Res Fl := (sSeq (sIf (tOrR (tE boolD (e2 neD (eVar 10) (eN tupD (aC (eVar 7) (aC (eVar 9) a0))))) (tE boolD (e2 neD (eCall m_inverse (aC (eVar 10) a0)) (eN tupD (aC (eVar 9) (aC (eVar 7) a0)))))) (sRet (eC (.bool false))) sNext)
  T_law_20)
def T_law_18 : Frm → Res Fl := (sSeq (sAppU 13 1 (eN tupD (aC (e2 atD (eVar 2) (eC (.int 0))) (aC (eN tupD (aC (eC (.str "word")) a0)) a0))))
  T_law_19)
def T_law_17 : Frm → Res Fl := (sSeq (sAppU 13 0 (eN tupD (aC (e2 atD (eVar 2) (eC (.int 0))) (aC (eN tupD (aC (eC (.str "word")) a0)) a0))))
  T_law_18)
def T_law_16 : Frm → Res Fl := (sSeq (sIf (tE boolD (e2 neD (eCall m_after (aC (eVar 4) (aC (eVar 12) (aC (eVar 13) a0)))) (eVar 6))) (sRet (eC (.bool false))) sNext)
  T_law_17)
def T_law_15 : Frm → Res Fl := (sSeq (sIf (tOrR (tNotR (tE truD (eCall m__law_is_change (aC (eVar 13) a0)))) (tE boolD (e2 neD (eVar 13) (eN tupD (aC (eVar 9) (aC (eVar 7) a0)))))) (sRet (eC (.bool false))) sNext)
  T_law_16)
def T_law_14 : Frm → Res Fl := (sSeq (sSetO2 13 (uCall m_inverse (aC (eVar 10) a0)))
  T_law_15)
def T_law_13 : Frm → Res Fl := (sSeq (sIf (tOrR (tNotR (tE truD (eCall m__law_is_facts (aC (eVar 12) a0)))) (tOrR (tE boolD (e2 neD (eVar 12) (eVar 11))) (tE boolD (e2 neD (eVar 10) (eN tupD (aC (eVar 7) (aC (eVar 9) a0))))))) (sRet (eC (.bool false))) sNext)
  T_law_14)
def T_law_12 : Frm → Res Fl := (sSeq (sSet 12 (eCall m_after (aC (eVar 4) (aC (eVar 6) (aC (eVar 10) a0)))))
  T_law_13)
def T_law_11 : Frm → Res Fl := (sFrz 7 (sFrz 9 (sSeq (sSet 11 (eCall m__law_ascending (aC (eVar 4) (aC (e2 addD (eL (lComp [15] (Tg.nm 15) (iF walkD (eVar 6)) (tE boolD (e2 notInD (eVar 15) (eVar 7))) (eVar 15))) (eVar 9)) a0))))
  T_law_12)))
def T_law_10 : Frm → Res Fl := (sFrz 9 (sFrz 7 (sSeq (sSet 10 (eN tupD (aC (eL (lF (oneL itemsD) (aC (eVar 7) a0))) (aC (eL (lF (oneL itemsD) (aC (eVar 9) a0))) a0))))
  T_law_11)))
def T_law_9 : Frm → Res Fl := (sSeq (sSetL 9 (lComp [15] (Tg.nm 15) (iF walkD (eVar 8)) (tE boolD (e2 notInD (eVar 15) (eVar 6))) (eVar 15)))
  T_law_10)
def T_law_8 : Frm → Res Fl := (sSeq (sSet 8 (eCall m__law_ascending (aC (eVar 4) (aC (eCall m__law_facts (aC (eVar 4) (aC (eVar 3) (aC (eSlice (eVar 1) (oSome (eC (.int 140))) (oSome (eC (.int 165)))) (aC (e2 modD (eN (oneD int2D) (aC (e2 atD (eVar 1) (eC (.int 171))) a0)) (eC (.int 6))) a0))))) a0))))
  T_law_9)
def T_law_7 : Frm → Res Fl := (sSeq (sSetL 7 (lComp [14] (Tg.nm 14) (iF r1D (eN (oneD lenD) (aC (eVar 6) a0))) (tE boolD (e2 eqD (e2 modD (eN (oneD int2D) (aC (e2 atD (eVar 1) (e2 addD (eC (.int 13)) (eVar 14))) a0)) (eC (.int 2))) (eC (.int 1)))) (e2 atD (eVar 6) (eVar 14))))
  T_law_8)
def T_law_6 : Frm → Res Fl := (sSeq (sSet 6 (eCall m__law_database (aC (eVar 4) (aC (e2 addD (eVar 3) (eCall m__law_pool (aC (e2 atD (eVar 1) (eC (.int 45))) (aC (e2 addD (e2 atD (eVar 1) (eC (.int 46))) (eC (.int 1))) (aC (eC (.int 6)) a0))))) (aC (eSlice (eVar 1) (oSome (eC (.int 50))) (oSome (eC (.int 170)))) (aC (eVar 5) a0))))))
  T_law_7)
def T_law_5 : Frm → Res Fl := (sSeq (sIf (tE boolD (e2 eqD (e2 modD (eN (oneD int2D) (aC (e2 atD (eVar 1) (eC (.int 44))) a0)) (eC (.int 5))) (eC (.int 4)))) (sSet 5 (eC (.int 24))) sNext)
  T_law_6)
def T_law_4 : Frm → Res Fl := (sSeq (sSet 5 (e2 modD (eN (oneD int2D) (aC (e2 atD (eVar 1) (eC (.int 43))) a0)) (eC (.int 7))))
  T_law_5)
def T_law_3 : Frm → Res Fl := (sSeq (sSet 4 (eCall m__law_schema (aC (eSlice (eVar 1) (oSome (eC (.int 4))) (oSome (eC (.int 13)))) (aC (eVar 2) a0))))
  T_law_4)
def T_law_2 : Frm → Res Fl := (sSeq (sSet 3 (eCall m__law_pool (aC (e2 atD (eVar 1) (eC (.int 2))) (aC (e2 atD (eVar 1) (eC (.int 3))) (aC (eC (.int 3)) a0)))))
  T_law_3)
def T_law_1 : Frm → Res Fl := (sSeq (sSet 2 (eCall m__law_pool (aC (e2 atD (eVar 1) (eC (.int 0))) (aC (e2 atD (eVar 1) (eC (.int 1))) (aC (eC (.int 4)) a0)))))
  T_law_2)
def F_law : Frm → Res Fl := (sSeq (sSet 1 (eCall m__law_draws (aC (eVar 0) (aC (eC (.int 180)) a0))))
  T_law_1)
def m_law : List D → Res RV := defM 1 16 F_law
theorem fk_law (z_int : mg "int" = none) (z_len : mg "len" = none) (z_list : mg "list" = none) (z_range : mg "range" = none) (kn__law_ascending : Known (TabList.mk CL P w) P w K mg base 2 "_law_ascending" ["schema", "facts"] m__law_ascending) (kn__law_database : Known (TabList.mk CL P w) P w K mg base 3 "_law_database" ["schema", "words", "draws", "many"] m__law_database) (kn__law_draws : Known (TabList.mk CL P w) P w K mg base 1 "_law_draws" ["script", "count"] m__law_draws) (kn__law_facts : Known (TabList.mk CL P w) P w K mg base 2 "_law_facts" ["schema", "words", "draws", "many"] m__law_facts) (kn__law_is_change : Known (TabList.mk CL P w) P w K mg base 2 "_law_is_change" ["actual"] m__law_is_change) (kn__law_is_facts : Known (TabList.mk CL P w) P w K mg base 1 "_law_is_facts" ["actual"] m__law_is_facts) (kn__law_pool : Known (TabList.mk CL P w) P w K mg base 1 "_law_pool" ["first", "second", "many"] m__law_pool) (kn__law_schema : Known (TabList.mk CL P w) P w K mg base 1 "_law_schema" ["draws", "pool"] m__law_schema) (kn_after : Known (TabList.mk CL P w) P w K mg base 3 "after" ["schema", "database", "change"] m_after) (kn_inverse : Known (TabList.mk CL P w) P w K mg base 1 "inverse" ["change"] m_inverse) (f : Addr) (cdv : Value) (s : Shared) (H : Hp) (E : XK) (hr : Room 3 (callerA.deeper (envOfC "law" (defScope s_law) s.heap.objs.size f cdv))) : DSs (TabList.mk CL P w) (cxOf (L2.CX P w) P w K mg base N_law "law" (defScope s_law) f cdv callerA [] s H E) (defBody s_law) F_law := by
  have C : CtE (cxOf (L2.CX P w) P w K mg base N_law "law" (defScope s_law) f cdv callerA [] s H E) := ⟨rfl, sc_law.nd, room_ct hr⟩
  exact (dss_cons (ds_set 1 (de_call kn__law_draws hr (by decide) (by rfl) (da_cons (de_var 0) (da_cons de_int da_nil))) C)
  (dss_cons (ds_set 2 (de_call kn__law_pool hr (by decide) (by rfl) (da_cons (de_ix (de_var 1) de_int) (da_cons (de_ix (de_var 1) de_int) (da_cons de_int da_nil)))) C)
  (dss_cons (ds_set 3 (de_call kn__law_pool hr (by decide) (by rfl) (da_cons (de_ix (de_var 1) de_int) (da_cons (de_ix (de_var 1) de_int) (da_cons de_int da_nil)))) C)
  (dss_cons (ds_set 4 (de_call kn__law_schema hr (by decide) (by rfl) (da_cons (de_slice (de_var 1) (do_some de_int) (do_some de_int)) (da_cons (de_var 2) da_nil))) C)
  (dss_cons (ds_set 5 (de_bin od_mod (de_callTy cd_int2 (by rfl) z_int bt_int (da_cons (de_ix (de_var 1) de_int) da_nil)) de_int) C)
  (dss_cons (ds_if (dt_cmp (od_eq C) (de_bin od_mod (de_callTy cd_int2 (by rfl) z_int bt_int (da_cons (de_ix (de_var 1) de_int) da_nil)) de_int) de_int) (dss_one (ds_set 5 de_int C)) dss_nil)
  (dss_cons (ds_set 6 (de_call kn__law_database hr (by decide) (by rfl) (da_cons (de_var 4) (da_cons (de_bin od_add (de_var 3) (de_call kn__law_pool hr (by decide) (by rfl) (da_cons (de_ix (de_var 1) de_int) (da_cons (de_bin od_add (de_ix (de_var 1) de_int) de_int) (da_cons de_int da_nil))))) (da_cons (de_slice (de_var 1) (do_some de_int) (do_some de_int)) (da_cons (de_var 5) da_nil))))) C)
  (dss_cons (ds_setL 7 (dl_comp C (di_range1 (by rfl) z_range (de_callB cd_len (by rfl) z_len bt_len (da_cons (de_var 6) da_nil))) (blkOk_by (N := N_law) (sc := defScope s_law) (own := [("k", 14)]) (by decide +kernel)) (by decide) (fun _ _ _ _ _ => (pg_name (i := 14) C.blk.nd rfl (by first | exact Or.inl rfl | exact Or.inr rfl))) (fun _ _ _ _ _ => (dts_one (dt_cmp (od_eq C.blk) (de_bin od_mod (de_callTy cd_int2 (by rfl) z_int bt_int (da_cons (de_ix (de_var 1) (de_bin od_add de_int (de_var 14))) da_nil)) de_int) de_int))) (fun _ _ _ _ _ => (de_ix (de_var 6) (de_var 14)))) C)
  (dss_cons (ds_set 8 (de_call kn__law_ascending hr (by decide) (by rfl) (da_cons (de_var 4) (da_cons (de_call kn__law_facts hr (by decide) (by rfl) (da_cons (de_var 4) (da_cons (de_var 3) (da_cons (de_slice (de_var 1) (do_some de_int) (do_some de_int)) (da_cons (de_bin od_mod (de_callTy cd_int2 (by rfl) z_int bt_int (da_cons (de_ix (de_var 1) de_int) da_nil)) de_int) da_nil))))) da_nil))) C)
  (dss_cons (ds_setLc 9 C (di_any (de_var 8)) (blkOk_by (N := N_law) (sc := defScope s_law) (own := [("fact", 15)]) (by decide +kernel)) (by decide) (fun _ _ _ _ _ => (pg_name (i := 15) C.blk.nd rfl (by first | exact Or.inl rfl | exact Or.inr rfl))) (fun _ _ _ _ _ => (dts_one (dt_cmp (od_notIn C.blk) (de_var 15) (de_var 6)))) (fun _ _ _ _ _ => (de_var 15)) (sw_true rfl rfl rfl rfl))
  (dss_frz (i := 9) (dss_frz (i := 7) (dss_cons (ds_set 10 (de_tup (da_cons (dl_callTy cl_list (by rfl) z_list bt_list (da_cons (de_var 7) da_nil)).de (da_cons (dl_callTy cl_list (by rfl) z_list bt_list (da_cons (de_var 9) da_nil)).de da_nil))) C)
  (dss_frz (i := 7) (dss_frz (i := 9) (dss_cons (ds_set 11 (de_call kn__law_ascending hr (by decide) (by rfl) (da_cons (de_var 4) (da_cons (de_bin od_add (dl_comp C (di_any (de_var 6)) (blkOk_by (N := N_law) (sc := defScope s_law) (own := [("fact", 15)]) (by decide +kernel)) (by decide) (fun _ _ _ _ _ => (pg_name (i := 15) C.blk.nd rfl (by first | exact Or.inl rfl | exact Or.inr rfl))) (fun _ _ _ _ _ => (dts_one (dt_cmp (od_notIn C.blk) (de_var 15) (de_var 7)))) (fun _ _ _ _ _ => (de_var 15))).de (de_var 9)) da_nil))) C)
  (dss_cons (ds_set 12 (de_call kn_after hr (by decide) (by rfl) (da_cons (de_var 4) (da_cons (de_var 6) (da_cons (de_var 10) da_nil)))) C)
  (dss_cons (ds_if (dw_or (dt_not (dt_tru (de_call kn__law_is_facts hr (by decide) (by rfl) (da_cons (de_var 12) da_nil)))) (dw_or (dt_cmp (od_ne C) (de_var 12) (de_var 11)) (dw_or1 (dt_cmp (od_ne C) (de_var 10) (de_tup (da_cons (de_var 7) (da_cons (de_var 9) da_nil))))))).dt (dss_one (ds_ret de_bl)) dss_nil)
  (dss_cons (ds_setO2 13 (du_call kn_inverse hr (by decide) (by rfl) (da_cons (de_var 10) da_nil)) C)
  (dss_cons (ds_if (dw_or (dt_not (dt_tru (de_call kn__law_is_change hr (by decide) (by rfl) (da_cons (de_var 13) da_nil)))) (dw_or1 (dt_cmp (od_ne C) (de_var 13) (de_tup (da_cons (de_var 9) (da_cons (de_var 7) da_nil)))))).dt (dss_one (ds_ret de_bl)) dss_nil)
  (dss_cons (ds_if (dt_cmp (od_ne C) (de_call kn_after hr (by decide) (by rfl) (da_cons (de_var 4) (da_cons (de_var 12) (da_cons (de_var 13) da_nil)))) (de_var 6)) (dss_one (ds_ret de_bl)) dss_nil)
  (dss_cons (ds_appU 13 0 (de_tup (da_cons (de_ix (de_var 2) de_int) (da_cons (de_tup (da_cons de_str da_nil)) da_nil))))
  (dss_cons (ds_appU 13 1 (de_tup (da_cons (de_ix (de_var 2) de_int) (da_cons (de_tup (da_cons de_str da_nil)) da_nil))))
  (dss_cons (ds_if (dw_or (dt_cmp (od_ne C) (de_var 10) (de_tup (da_cons (de_var 7) (da_cons (de_var 9) da_nil)))) (dw_or1 (dt_cmp (od_ne C) (de_call kn_inverse hr (by decide) (by rfl) (da_cons (de_var 10) da_nil)) (de_tup (da_cons (de_var 9) (da_cons (de_var 7) da_nil)))))).dt (dss_one (ds_ret de_bl)) dss_nil)
  (dss_one (ds_ret (de_and (de_cmp (od_eq C) (de_call kn_after hr (by decide) (by rfl) (da_cons (de_var 4) (da_cons (de_var 6) (da_cons (de_tup (da_cons (dl_lst da_nil).de (da_cons (dl_lst da_nil).de da_nil))) da_nil)))) (de_var 6)) (de_one (de_cmp (od_eq C) (de_call kn_inverse hr (by decide) (by rfl) (da_cons (de_tup (da_cons (dl_lst da_nil).de (da_cons (dl_lst da_nil).de da_nil))) da_nil)) (de_tup (da_cons (dl_lst da_nil).de (da_cons (dl_lst da_nil).de da_nil))))))))))))))))))))))))))))))))
end
theorem q_draws : m__law_draws = Com2.m__law_draws := rfl
theorem q_pool : m__law_pool = Com2.m__law_pool := rfl
theorem q_schema : m__law_schema = Com2.m__law_schema := rfl
theorem q_asc : m__law_ascending = Com2.m__law_ascending := rfl
theorem q_facts : m__law_facts = Com2.m__law_facts := rfl
theorem q_ascending : m_ascending = Com2.m_ascending := rfl
theorem q_without : m_without = Com2.m_without := rfl
theorem q_change : m__law_is_change = Com2.m__law_is_change := rfl
theorem q_isfacts : m__law_is_facts = Com2.m__law_is_facts := rfl
open Com2
/-- a list of facts in ascending order, each once -/
structure Wor (n : Nat) (S : List Tb) (xs : List Ft) : Prop where
  ins : InS S xs
  srt : xs.Pairwise fun f g => leF S f g = true
  nd : xs.Nodup
  len : xs.length ≤ n
  row : ∀ f ∈ xs, f.2.length ≤ 4
theorem Wor.lf {n : Nat} {S : List Tb} {xs : List Ft} (h : Wor n S xs) : LfOk xs := fun f hf => (h.ins f hf).1
theorem Wor.sub {n : Nat} {S : List Tb} {xs ys : List Ft} (h : Wor n S xs) (k : ys.Sublist xs) : Wor n S ys :=
  ⟨fun f hf => h.ins f (k.subset hf), h.srt.sublist k, h.nd.sublist k, Nat.le_trans k.length_le h.len, fun f hf => h.row f (k.subset hf)⟩
theorem minus_sub (xs ys : List Ft) : (minusF xs ys).Sublist xs := List.filter_sublist
theorem minus_len (xs ys : List Ft) : (minusF xs ys).length ≤ xs.length := List.length_filter_le _ _
theorem without_q (xs ys : List Ft) (hx : xs.length ≤ 10000) (hy : ys.length ≤ 63) : K06.m_without [.list (xs.map ftD), .list (ys.map ftD)] = .ok (.own ((minusF xs ys).map ftD)) := by
  rw [q_without]
  exact without_run xs ys hx hy
theorem ascending_q (S : List Tb) (fs : List Ft) (hS : S.length ≤ 100) (hf : fs.length ≤ 63) (h : InS S fs) : K06.m_ascending [.list (S.map tbD), .list (fs.map ftD)] = .ok (.own ((ascF S fs).map ftD)) := by
  rw [q_ascending]
  exact ascending_run S fs hS hf h
theorem let_eq {x y : Str} (hx : Wd x) (hy : Wd y) : eqD (.str x) (.str y) = .ok (.bool (decide (x = y))) := strE.eqD hx hy
theorem slice_row (r : List Str) (k : Nat) : sliceD (.tuple (r.map .str)) none (some (k : Int)) = .ok (.tuple ((r.take k).map .str)) := by
  refine congrArg (fun z => Res.ok (PyData.tuple z)) ?_
  show cutG (r.map PyData.str) none (some (k : Int)) = _
  unfold cutG
  simp only [HT.sIx_nat, List.map_take, List.length_map]
  show List.take (min k r.length - 0) (List.drop 0 (List.map PyData.str r)) = List.take k (List.map PyData.str r)
  rw [Nat.sub_zero, List.drop_zero]
  by_cases h : k ≤ r.length
  · rw [Nat.min_eq_left h]
  · rw [Nat.min_eq_right (by omega), List.take_of_length_le (by rw [List.length_map]; exact Nat.le_refl _), List.take_of_length_le (by rw [List.length_map]; omega)]
theorem lsame_run (S : List Tb) (f g : Ft) (hW : ∀ t ∈ S, Wd t.1) (hf : FtOk f) (hg : FtOk g) : ∃ b, m__law_same_key [.list (S.map tbD), ftD f, ftD g] = .ok (.val (.bool b)) := by
  rw [u__law_same_key]
  rw [defM_eq (np := 3) rfl]
  show ∃ b, outR (F__law_same_key [.val (.list (S.map tbD)), .val (.tuple [.str f.1, .tuple (f.2.map .str)]), .val (.tuple [.str g.1, .tuple (g.2.map .str)]), .emp, .emp, .emp]) = .ok (.val (.bool b))
  unfold F__law_same_key
  have hfind := forF_find (t := Tg.tp [3, 4, 5]) (F := B__law_same_key_0) (ρ := [.val (.list (S.map tbD)), .val (.tuple [.str f.1, .tuple (f.2.map .str)]), .val (.tuple [.str g.1, .tuple (g.2.map .str)]), .emp, .emp, .emp]) tbD (fun t => decide (f.1 = t.1) && (decide (g.1 = t.1) && decide (t.2.2 ≠ none)))
    (fun t => .val (.bool (decide (f.2.take (t.2.2.getD 0) = g.2.take (t.2.2.getD 0))))) S fun t ht => by
      have e1 := let_eq hf.1 (hW t ht)
      have e2 := let_eq hg.1 (hW t ht)
      have nb : notBD (kyD t.2.2) .none = .ok (.bool (decide (t.2.2 ≠ none))) := by cases t.2.2 <;> rfl
      refine ⟨_, rfl, fun hp => ?_, fun hp => .inl ?_⟩
      · simp only [Bool.and_eq_true, decide_eq_true_eq] at hp
        obtain ⟨p1, p2, p3⟩ := hp
        cases hk : t.2.2 with
        | none => exact absurd hk p3
        | some k =>
          have s1 := slice_row f.2 k
          have s2 := slice_row g.2 k
          have er : eqD (.tuple ((f.2.take k).map .str)) (.tuple ((g.2.take k).map .str)) = .ok (.bool (decide (f.2.take k = g.2.take k))) := rwE.eqD (fun w hw => hf.2 w (List.mem_of_mem_take hw)) (fun w hw => hg.2 w (List.mem_of_mem_take hw))
          rw [hk] at nb
          have nb : notBD (.int (k : Int)) .none = .ok (.bool true) := nb
          have hk' : kyD t.2.2 = .int (k : Int) := by rw [hk]; rfl
          rw [decide_eq_true p1] at e1
          rw [decide_eq_true p2] at e2
          rw [hk] at hk'
          unfold B__law_same_key_0
          simp -implicitDefEqProofs (disch := omega) only [Pyr.run_fSu, Pyr.run_pSu, Pyr.run_ownU, Pyr.RV.d, Pyr.run_flI, Pyr.run_flB, Pyr.run_flS, Pyr.run_flN, Pyr.sSeq, Pyr.sKill, Pyr.run_kill0, Pyr.run_killS, Pyr.sIf, Pyr.sSet, Pyr.sSetL, Pyr.sRet, Pyr.sRetL, Pyr.sRetN, Pyr.sRetO, Pyr.sDrop, Pyr.sApp, Pyr.sNext, Pyr.sFrz, Pyr.sSetT, Pyr.tgF, Pyr.setsF, Pyr.evP, Pyr.evL, Pyr.evT, Pyr.bare, Pyr.eC, Pyr.e1, Pyr.e2, Pyr.eN, Pyr.aC, Pyr.a0, Pyr.eIf, Pyr.eAnd, Pyr.eOr, Pyr.eNot, Pyr.eChain, Pyr.tE, Pyr.tNotR, Pyr.tAndR, Pyr.tOrR, Pyr.eCall, Pyr.lCall, Pyr.iF, Pyr.iF2, Pyr.lN, Pyr.lF, Pyr.eFs, Pyr.jC, Pyr.j0, Pyr.eIxV, Pyr.ownI, Pyr.lAdd, Pyr.sExt, Pyr.sPop, Pyr.trF, Pyr.trsF, Trs.len, Pyr.run_max2, Pyr.run_min2, Pyr.backD, Pyr.eSlice, Pyr.oNone, Pyr.oSome, Pyr.optI, Pyr.lSlice, Pyr.listD, eL, Pyr.eB, Pyr.oneD, Pyr.oneL, Pyr.itemsD, Pyr.outR, Pyr.ownD, Pyr.RV.d, Pyr.tupD, Pyr.run_mul, Pyr.run_mulS, Pyr.run_add, Pyr.run_sub, Pyr.run_addS, Pyr.run_mod, Pyr.run_fdiv, Pyr.run_lt, Pyr.run_le, Pyr.run_gt, Pyr.run_ge, Pyr.run_lenL, Pyr.run_lenT, Pyr.run_lenS, Pyr.run_int, Pyr.run_bool, Pyr.run_truB, Pyr.run_truL, Pyr.run_pur1, Pyr.run_frz1, Pyr.run_pSv, Pyr.run_pSo, Pyr.run_pSe, Pyr.run_fSv, Pyr.run_fSo, Pyr.run_fSe, Pyr.run_pur0, Pyr.run_frz0, Pyr.run_v0n, Pyr.run_v0b, Pyr.run_v0i, Pyr.run_v0s, Pyr.run_v0l, Pyr.run_v0t, Pyr.run_v0o, Pyr.run_vN, Pyr.run_vS, Pyr.run_bad, Pyr.run_exc, Pyr.run_map, Pyr.run_okL, List.length_cons, List.length_nil, Pyr.bind_ok, List.set_cons_zero, List.set_cons_succ, List.getElem?_cons_zero, List.getElem?_cons_succ, Pyr.eqD_int, Pyr.eqD_str, Pyr.neD_int, Pyr.neD_str, if_true, if_false, Bool.not_true, Bool.not_false, Bool.false_eq_true, decide_true, decide_false, Pyr.run_atT0, Pyr.run_atT1, Pyr.run_atT2, Pyr.run_atT3, Pyr.run_atT4, Pyr.run_atL0, Pyr.run_atL1, Pyr.run_atL2, Pyr.run_atL3, Pyr.run_atL4, Pyr.isi_str_n, Pyr.isi_str_b, Pyr.isi_str_i, Pyr.isi_str_s, Pyr.isi_str_l, Pyr.isi_str_t, Pyr.isi_str_d, Pyr.isi_int_n, Pyr.isi_int_b, Pyr.isi_int_i, Pyr.isi_int_s, Pyr.isi_int_l, Pyr.isi_int_t, Pyr.isi_int_d, Pyr.isi_bool_n, Pyr.isi_bool_b, Pyr.isi_bool_i, Pyr.isi_bool_s, Pyr.isi_bool_l, Pyr.isi_bool_t, Pyr.isi_bool_d, Pyr.isi_list_n, Pyr.isi_list_b, Pyr.isi_list_i, Pyr.isi_list_s, Pyr.isi_list_l, Pyr.isi_list_t, Pyr.isi_list_d, Pyr.isi_tuple_n, Pyr.isi_tuple_b, Pyr.isi_tuple_i, Pyr.isi_tuple_s, Pyr.isi_tuple_l, Pyr.isi_tuple_t, Pyr.isi_tuple_d, Pyr.isi_dict_n, Pyr.isi_dict_b, Pyr.isi_dict_i, Pyr.isi_dict_s, Pyr.isi_dict_l, Pyr.isi_dict_t, Pyr.isi_dict_d, Nat.reduceAdd, Int.cast_ofNat_Int, Int.natCast_zero, Int.natCast_one, Int.reduceEq, Int.reduceLT, Int.reduceLE, Int.reduceAdd, Int.reduceSub, Int.reduceMul, Int.reduceNeg, Int.reduceNe, Nat.zero_add, reduceIte, decide_eq_true_eq, beq_self_eq_true, eq_self, Bool.true_or, Bool.or_true, Bool.and_true, Bool.true_and, Bool.false_or, Bool.or_false, Bool.and_false, Bool.false_and, setsF, hk', e1, e2, nb, optI, s1, s2, er]
          try rfl
      · have nb' := nb
        unfold B__law_same_key_0
        by_cases p1 : f.1 = t.1
        · rw [decide_eq_true p1] at e1
          by_cases p2 : g.1 = t.1
          · rw [decide_eq_true p2] at e2
            have p3 : t.2.2 = none := by simpa [p1, p2] using hp
            rw [p3] at nb ⊢
            have nb : notBD .none .none = .ok (.bool false) := rfl
            have hk' : kyD none = PyData.none := rfl
            simp -implicitDefEqProofs (disch := omega) only [Pyr.run_fSu, Pyr.run_pSu, Pyr.run_ownU, Pyr.RV.d, Pyr.run_flI, Pyr.run_flB, Pyr.run_flS, Pyr.run_flN, Pyr.sSeq, Pyr.sKill, Pyr.run_kill0, Pyr.run_killS, Pyr.sIf, Pyr.sSet, Pyr.sSetL, Pyr.sRet, Pyr.sRetL, Pyr.sRetN, Pyr.sRetO, Pyr.sDrop, Pyr.sApp, Pyr.sNext, Pyr.sFrz, Pyr.sSetT, Pyr.tgF, Pyr.setsF, Pyr.evP, Pyr.evL, Pyr.evT, Pyr.bare, Pyr.eC, Pyr.e1, Pyr.e2, Pyr.eN, Pyr.aC, Pyr.a0, Pyr.eIf, Pyr.eAnd, Pyr.eOr, Pyr.eNot, Pyr.eChain, Pyr.tE, Pyr.tNotR, Pyr.tAndR, Pyr.tOrR, Pyr.eCall, Pyr.lCall, Pyr.iF, Pyr.iF2, Pyr.lN, Pyr.lF, Pyr.eFs, Pyr.jC, Pyr.j0, Pyr.eIxV, Pyr.ownI, Pyr.lAdd, Pyr.sExt, Pyr.sPop, Pyr.trF, Pyr.trsF, Trs.len, Pyr.run_max2, Pyr.run_min2, Pyr.backD, Pyr.eSlice, Pyr.oNone, Pyr.oSome, Pyr.optI, Pyr.lSlice, Pyr.listD, eL, Pyr.eB, Pyr.oneD, Pyr.oneL, Pyr.itemsD, Pyr.outR, Pyr.ownD, Pyr.RV.d, Pyr.tupD, Pyr.run_mul, Pyr.run_mulS, Pyr.run_add, Pyr.run_sub, Pyr.run_addS, Pyr.run_mod, Pyr.run_fdiv, Pyr.run_lt, Pyr.run_le, Pyr.run_gt, Pyr.run_ge, Pyr.run_lenL, Pyr.run_lenT, Pyr.run_lenS, Pyr.run_int, Pyr.run_bool, Pyr.run_truB, Pyr.run_truL, Pyr.run_pur1, Pyr.run_frz1, Pyr.run_pSv, Pyr.run_pSo, Pyr.run_pSe, Pyr.run_fSv, Pyr.run_fSo, Pyr.run_fSe, Pyr.run_pur0, Pyr.run_frz0, Pyr.run_v0n, Pyr.run_v0b, Pyr.run_v0i, Pyr.run_v0s, Pyr.run_v0l, Pyr.run_v0t, Pyr.run_v0o, Pyr.run_vN, Pyr.run_vS, Pyr.run_bad, Pyr.run_exc, Pyr.run_map, Pyr.run_okL, List.length_cons, List.length_nil, Pyr.bind_ok, List.set_cons_zero, List.set_cons_succ, List.getElem?_cons_zero, List.getElem?_cons_succ, Pyr.eqD_int, Pyr.eqD_str, Pyr.neD_int, Pyr.neD_str, if_true, if_false, Bool.not_true, Bool.not_false, Bool.false_eq_true, decide_true, decide_false, Pyr.run_atT0, Pyr.run_atT1, Pyr.run_atT2, Pyr.run_atT3, Pyr.run_atT4, Pyr.run_atL0, Pyr.run_atL1, Pyr.run_atL2, Pyr.run_atL3, Pyr.run_atL4, Pyr.isi_str_n, Pyr.isi_str_b, Pyr.isi_str_i, Pyr.isi_str_s, Pyr.isi_str_l, Pyr.isi_str_t, Pyr.isi_str_d, Pyr.isi_int_n, Pyr.isi_int_b, Pyr.isi_int_i, Pyr.isi_int_s, Pyr.isi_int_l, Pyr.isi_int_t, Pyr.isi_int_d, Pyr.isi_bool_n, Pyr.isi_bool_b, Pyr.isi_bool_i, Pyr.isi_bool_s, Pyr.isi_bool_l, Pyr.isi_bool_t, Pyr.isi_bool_d, Pyr.isi_list_n, Pyr.isi_list_b, Pyr.isi_list_i, Pyr.isi_list_s, Pyr.isi_list_l, Pyr.isi_list_t, Pyr.isi_list_d, Pyr.isi_tuple_n, Pyr.isi_tuple_b, Pyr.isi_tuple_i, Pyr.isi_tuple_s, Pyr.isi_tuple_l, Pyr.isi_tuple_t, Pyr.isi_tuple_d, Pyr.isi_dict_n, Pyr.isi_dict_b, Pyr.isi_dict_i, Pyr.isi_dict_s, Pyr.isi_dict_l, Pyr.isi_dict_t, Pyr.isi_dict_d, Nat.reduceAdd, Int.cast_ofNat_Int, Int.natCast_zero, Int.natCast_one, Int.reduceEq, Int.reduceLT, Int.reduceLE, Int.reduceAdd, Int.reduceSub, Int.reduceMul, Int.reduceNeg, Int.reduceNe, Nat.zero_add, reduceIte, decide_eq_true_eq, beq_self_eq_true, eq_self, Bool.true_or, Bool.or_true, Bool.and_true, Bool.true_and, Bool.false_or, Bool.or_false, Bool.and_false, Bool.false_and, setsF, hk', e1, e2, nb]
            try rfl
          · rw [decide_eq_false p2] at e2
            simp -implicitDefEqProofs (disch := omega) only [Pyr.run_fSu, Pyr.run_pSu, Pyr.run_ownU, Pyr.RV.d, Pyr.run_flI, Pyr.run_flB, Pyr.run_flS, Pyr.run_flN, Pyr.sSeq, Pyr.sKill, Pyr.run_kill0, Pyr.run_killS, Pyr.sIf, Pyr.sSet, Pyr.sSetL, Pyr.sRet, Pyr.sRetL, Pyr.sRetN, Pyr.sRetO, Pyr.sDrop, Pyr.sApp, Pyr.sNext, Pyr.sFrz, Pyr.sSetT, Pyr.tgF, Pyr.setsF, Pyr.evP, Pyr.evL, Pyr.evT, Pyr.bare, Pyr.eC, Pyr.e1, Pyr.e2, Pyr.eN, Pyr.aC, Pyr.a0, Pyr.eIf, Pyr.eAnd, Pyr.eOr, Pyr.eNot, Pyr.eChain, Pyr.tE, Pyr.tNotR, Pyr.tAndR, Pyr.tOrR, Pyr.eCall, Pyr.lCall, Pyr.iF, Pyr.iF2, Pyr.lN, Pyr.lF, Pyr.eFs, Pyr.jC, Pyr.j0, Pyr.eIxV, Pyr.ownI, Pyr.lAdd, Pyr.sExt, Pyr.sPop, Pyr.trF, Pyr.trsF, Trs.len, Pyr.run_max2, Pyr.run_min2, Pyr.backD, Pyr.eSlice, Pyr.oNone, Pyr.oSome, Pyr.optI, Pyr.lSlice, Pyr.listD, eL, Pyr.eB, Pyr.oneD, Pyr.oneL, Pyr.itemsD, Pyr.outR, Pyr.ownD, Pyr.RV.d, Pyr.tupD, Pyr.run_mul, Pyr.run_mulS, Pyr.run_add, Pyr.run_sub, Pyr.run_addS, Pyr.run_mod, Pyr.run_fdiv, Pyr.run_lt, Pyr.run_le, Pyr.run_gt, Pyr.run_ge, Pyr.run_lenL, Pyr.run_lenT, Pyr.run_lenS, Pyr.run_int, Pyr.run_bool, Pyr.run_truB, Pyr.run_truL, Pyr.run_pur1, Pyr.run_frz1, Pyr.run_pSv, Pyr.run_pSo, Pyr.run_pSe, Pyr.run_fSv, Pyr.run_fSo, Pyr.run_fSe, Pyr.run_pur0, Pyr.run_frz0, Pyr.run_v0n, Pyr.run_v0b, Pyr.run_v0i, Pyr.run_v0s, Pyr.run_v0l, Pyr.run_v0t, Pyr.run_v0o, Pyr.run_vN, Pyr.run_vS, Pyr.run_bad, Pyr.run_exc, Pyr.run_map, Pyr.run_okL, List.length_cons, List.length_nil, Pyr.bind_ok, List.set_cons_zero, List.set_cons_succ, List.getElem?_cons_zero, List.getElem?_cons_succ, Pyr.eqD_int, Pyr.eqD_str, Pyr.neD_int, Pyr.neD_str, if_true, if_false, Bool.not_true, Bool.not_false, Bool.false_eq_true, decide_true, decide_false, Pyr.run_atT0, Pyr.run_atT1, Pyr.run_atT2, Pyr.run_atT3, Pyr.run_atT4, Pyr.run_atL0, Pyr.run_atL1, Pyr.run_atL2, Pyr.run_atL3, Pyr.run_atL4, Pyr.isi_str_n, Pyr.isi_str_b, Pyr.isi_str_i, Pyr.isi_str_s, Pyr.isi_str_l, Pyr.isi_str_t, Pyr.isi_str_d, Pyr.isi_int_n, Pyr.isi_int_b, Pyr.isi_int_i, Pyr.isi_int_s, Pyr.isi_int_l, Pyr.isi_int_t, Pyr.isi_int_d, Pyr.isi_bool_n, Pyr.isi_bool_b, Pyr.isi_bool_i, Pyr.isi_bool_s, Pyr.isi_bool_l, Pyr.isi_bool_t, Pyr.isi_bool_d, Pyr.isi_list_n, Pyr.isi_list_b, Pyr.isi_list_i, Pyr.isi_list_s, Pyr.isi_list_l, Pyr.isi_list_t, Pyr.isi_list_d, Pyr.isi_tuple_n, Pyr.isi_tuple_b, Pyr.isi_tuple_i, Pyr.isi_tuple_s, Pyr.isi_tuple_l, Pyr.isi_tuple_t, Pyr.isi_tuple_d, Pyr.isi_dict_n, Pyr.isi_dict_b, Pyr.isi_dict_i, Pyr.isi_dict_s, Pyr.isi_dict_l, Pyr.isi_dict_t, Pyr.isi_dict_d, Nat.reduceAdd, Int.cast_ofNat_Int, Int.natCast_zero, Int.natCast_one, Int.reduceEq, Int.reduceLT, Int.reduceLE, Int.reduceAdd, Int.reduceSub, Int.reduceMul, Int.reduceNeg, Int.reduceNe, Nat.zero_add, reduceIte, decide_eq_true_eq, beq_self_eq_true, eq_self, Bool.true_or, Bool.or_true, Bool.and_true, Bool.true_and, Bool.false_or, Bool.or_false, Bool.and_false, Bool.false_and, setsF, e1, e2]
            try rfl
        · rw [decide_eq_false p1] at e1
          simp -implicitDefEqProofs (disch := omega) only [Pyr.run_fSu, Pyr.run_pSu, Pyr.run_ownU, Pyr.RV.d, Pyr.run_flI, Pyr.run_flB, Pyr.run_flS, Pyr.run_flN, Pyr.sSeq, Pyr.sKill, Pyr.run_kill0, Pyr.run_killS, Pyr.sIf, Pyr.sSet, Pyr.sSetL, Pyr.sRet, Pyr.sRetL, Pyr.sRetN, Pyr.sRetO, Pyr.sDrop, Pyr.sApp, Pyr.sNext, Pyr.sFrz, Pyr.sSetT, Pyr.tgF, Pyr.setsF, Pyr.evP, Pyr.evL, Pyr.evT, Pyr.bare, Pyr.eC, Pyr.e1, Pyr.e2, Pyr.eN, Pyr.aC, Pyr.a0, Pyr.eIf, Pyr.eAnd, Pyr.eOr, Pyr.eNot, Pyr.eChain, Pyr.tE, Pyr.tNotR, Pyr.tAndR, Pyr.tOrR, Pyr.eCall, Pyr.lCall, Pyr.iF, Pyr.iF2, Pyr.lN, Pyr.lF, Pyr.eFs, Pyr.jC, Pyr.j0, Pyr.eIxV, Pyr.ownI, Pyr.lAdd, Pyr.sExt, Pyr.sPop, Pyr.trF, Pyr.trsF, Trs.len, Pyr.run_max2, Pyr.run_min2, Pyr.backD, Pyr.eSlice, Pyr.oNone, Pyr.oSome, Pyr.optI, Pyr.lSlice, Pyr.listD, eL, Pyr.eB, Pyr.oneD, Pyr.oneL, Pyr.itemsD, Pyr.outR, Pyr.ownD, Pyr.RV.d, Pyr.tupD, Pyr.run_mul, Pyr.run_mulS, Pyr.run_add, Pyr.run_sub, Pyr.run_addS, Pyr.run_mod, Pyr.run_fdiv, Pyr.run_lt, Pyr.run_le, Pyr.run_gt, Pyr.run_ge, Pyr.run_lenL, Pyr.run_lenT, Pyr.run_lenS, Pyr.run_int, Pyr.run_bool, Pyr.run_truB, Pyr.run_truL, Pyr.run_pur1, Pyr.run_frz1, Pyr.run_pSv, Pyr.run_pSo, Pyr.run_pSe, Pyr.run_fSv, Pyr.run_fSo, Pyr.run_fSe, Pyr.run_pur0, Pyr.run_frz0, Pyr.run_v0n, Pyr.run_v0b, Pyr.run_v0i, Pyr.run_v0s, Pyr.run_v0l, Pyr.run_v0t, Pyr.run_v0o, Pyr.run_vN, Pyr.run_vS, Pyr.run_bad, Pyr.run_exc, Pyr.run_map, Pyr.run_okL, List.length_cons, List.length_nil, Pyr.bind_ok, List.set_cons_zero, List.set_cons_succ, List.getElem?_cons_zero, List.getElem?_cons_succ, Pyr.eqD_int, Pyr.eqD_str, Pyr.neD_int, Pyr.neD_str, if_true, if_false, Bool.not_true, Bool.not_false, Bool.false_eq_true, decide_true, decide_false, Pyr.run_atT0, Pyr.run_atT1, Pyr.run_atT2, Pyr.run_atT3, Pyr.run_atT4, Pyr.run_atL0, Pyr.run_atL1, Pyr.run_atL2, Pyr.run_atL3, Pyr.run_atL4, Pyr.isi_str_n, Pyr.isi_str_b, Pyr.isi_str_i, Pyr.isi_str_s, Pyr.isi_str_l, Pyr.isi_str_t, Pyr.isi_str_d, Pyr.isi_int_n, Pyr.isi_int_b, Pyr.isi_int_i, Pyr.isi_int_s, Pyr.isi_int_l, Pyr.isi_int_t, Pyr.isi_int_d, Pyr.isi_bool_n, Pyr.isi_bool_b, Pyr.isi_bool_i, Pyr.isi_bool_s, Pyr.isi_bool_l, Pyr.isi_bool_t, Pyr.isi_bool_d, Pyr.isi_list_n, Pyr.isi_list_b, Pyr.isi_list_i, Pyr.isi_list_s, Pyr.isi_list_l, Pyr.isi_list_t, Pyr.isi_list_d, Pyr.isi_tuple_n, Pyr.isi_tuple_b, Pyr.isi_tuple_i, Pyr.isi_tuple_s, Pyr.isi_tuple_l, Pyr.isi_tuple_t, Pyr.isi_tuple_d, Pyr.isi_dict_n, Pyr.isi_dict_b, Pyr.isi_dict_i, Pyr.isi_dict_s, Pyr.isi_dict_l, Pyr.isi_dict_t, Pyr.isi_dict_d, Nat.reduceAdd, Int.cast_ofNat_Int, Int.natCast_zero, Int.natCast_one, Int.reduceEq, Int.reduceLT, Int.reduceLE, Int.reduceAdd, Int.reduceSub, Int.reduceMul, Int.reduceNeg, Int.reduceNe, Nat.zero_add, reduceIte, decide_eq_true_eq, beq_self_eq_true, eq_self, Bool.true_or, Bool.or_true, Bool.and_true, Bool.true_and, Bool.false_or, Bool.or_false, Bool.and_false, Bool.false_and, setsF, e1]
          try rfl
  have hi : (iF walkD (eVar 0)) (purE [.val (.list (S.map tbD)), .val (.tuple [.str f.1, .tuple (f.2.map .str)]), .val (.tuple [.str g.1, .tuple (g.2.map .str)]), .emp, .emp, .emp]) = .ok (S.map tbD) := rfl
  show ∃ b, outR (sSeq (sFor (Tg.tp [3, 4, 5]) (iF walkD (eVar 0)) B__law_same_key_0) _ [.val (.list (S.map tbD)), .val (.tuple [.str f.1, .tuple (f.2.map .str)]), .val (.tuple [.str g.1, .tuple (g.2.map .str)]), .emp, .emp, .emp]) = .ok (.val (.bool b))
  cases q : S.find? (fun t => decide (f.1 = t.1) && (decide (g.1 = t.1) && decide (t.2.2 ≠ none))) with
  | some t =>
    rw [q] at hfind
    rw [seq_ret ((for_ok hi).trans hfind)]
    exact ⟨_, rfl⟩
  | none =>
    rw [q] at hfind
    rw [seq_ok ((for_ok hi).trans hfind)]
    exact ⟨_, rfl⟩
/-! ### a database: some of the drawn facts, in order -/
theorem bools_any : ∀ ys : List Pyr.D, (∀ y ∈ ys, ∃ d ∈ ys, ∃ b, y = .bool b) → ∃ bs : List Bool, ys = bs.map .bool
  | [], _ => ⟨[], rfl⟩
  | y :: ys, h => by
    obtain ⟨_, _, b, rfl⟩ := h y List.mem_cons_self
    obtain ⟨bs, rfl⟩ := bools_any ys fun z hz => by
      obtain ⟨_, _, c, e⟩ := h z (List.mem_cons_of_mem _ hz)
      exact ⟨z, hz, c, e⟩
    exact ⟨b :: bs, rfl⟩
theorem boolsD_map : ∀ bs : List Bool, boolsD (bs.map .bool) = some bs
  | [] => rfl
  | b :: bs => by
    show (boolsD (bs.map .bool)).map (b :: ·) = _
    rw [boolsD_map bs]
    rfl
theorem anyD_bools (bs : List Bool) : anyD (.list (bs.map .bool)) = .ok (.bool (bs.any id)) := by
  show (match boolsD (bs.map .bool) with
    | some bs => _
    | none => _) = _
  rw [boolsD_map]
theorem any1_ok {f : En → Res (List Pyr.D)} {ρ : En} {ds : List Pyr.D} {r : Res Pyr.D} (h : f ρ = .ok ds) (h2 : anyD (.list ds) = r) : (eN (oneD anyD) (aC (eL f) Pyr.a0)) ρ = r := by
  unfold eN aC eL
  rw [h]
  exact h2
theorem sif_no {ft : En → Res Bool} {F1 F2 : Frm → Res Fl} {ρ : Frm} (h : evT ft ρ = .ok false) : sIf ft F1 F2 ρ = F2 ρ := by
  unfold sIf
  rw [h]
  rfl
theorem sif_yes {ft : En → Res Bool} {F1 F2 : Frm → Res Fl} {ρ : Frm} (h : evT ft ρ = .ok true) : sIf ft F1 F2 ρ = F1 ρ := by
  unfold sIf
  rw [h]
  rfl
theorem any_run (S : List Tb) (acc : List Ft) (f : Ft) (a1 a2 a3 : Pyr.D) (hW : ∀ t ∈ S, Wd t.1) (ha : ∀ g ∈ acc, FtOk g) (hf : FtOk f) (hl : acc.length ≤ 1000) :
    ∃ b, (eN (oneD anyD) (aC (eL (lComp [6] (Tg.nm 6) (iF walkD (eVar 4)) tYesR (eCall m__law_same_key (aC (eVar 0) (aC (eVar 6) (aC (eVar 5) Pyr.a0)))))) Pyr.a0)) (frzE [.val (.list (S.map tbD)), .val a1, .val a2, .val a3, .own (.lst (acc.map ftD)), .val (ftD f), .emp]) = .ok (.bool b) := by
  obtain ⟨ys, e, hl2, hy⟩ := compF_exP (t := Tg.nm 6) (tt := tYesR) (fe := eCall m__law_same_key (aC (eVar 0) (aC (eVar 6) (aC (eVar 5) Pyr.a0))))
    (ρ := wipeE (frzE [.val (.list (S.map tbD)), .val a1, .val a2, .val a3, .own (.lst (acc.map ftD)), .val (ftD f), .emp]) [6]) (fun _ y => ∃ b, y = .bool b) (acc.map ftD) fun d hd => by
      obtain ⟨g, hg, rfl⟩ := List.mem_map.mp hd
      obtain ⟨b, hb⟩ := lsame_run S g f hW (ha g hg) hf
      refine ⟨_, .bool b, rfl, rfl, ?_, b, rfl⟩
      simp -implicitDefEqProofs (disch := omega) only [Pyr.run_fSu, Pyr.run_pSu, Pyr.run_ownU, Pyr.RV.d, Pyr.run_flI, Pyr.run_flB, Pyr.run_flS, Pyr.run_flN, Pyr.sSeq, Pyr.sKill, Pyr.run_kill0, Pyr.run_killS, Pyr.sIf, Pyr.sSet, Pyr.sSetL, Pyr.sRet, Pyr.sRetL, Pyr.sRetN, Pyr.sRetO, Pyr.sDrop, Pyr.sApp, Pyr.sNext, Pyr.sFrz, Pyr.sSetT, Pyr.tgF, Pyr.setsF, Pyr.evP, Pyr.evL, Pyr.evT, Pyr.bare, Pyr.eC, Pyr.e1, Pyr.e2, Pyr.eN, Pyr.aC, Pyr.a0, Pyr.eIf, Pyr.eAnd, Pyr.eOr, Pyr.eNot, Pyr.eChain, Pyr.tE, Pyr.tNotR, Pyr.tAndR, Pyr.tOrR, Pyr.eCall, Pyr.lCall, Pyr.iF, Pyr.iF2, Pyr.lN, Pyr.lF, Pyr.eFs, Pyr.jC, Pyr.j0, Pyr.eIxV, Pyr.ownI, Pyr.lAdd, Pyr.sExt, Pyr.sPop, Pyr.trF, Pyr.trsF, Trs.len, Pyr.run_max2, Pyr.run_min2, Pyr.backD, Pyr.eSlice, Pyr.oNone, Pyr.oSome, Pyr.optI, Pyr.lSlice, Pyr.listD, eL, Pyr.eB, Pyr.oneD, Pyr.oneL, Pyr.itemsD, Pyr.outR, Pyr.ownD, Pyr.RV.d, Pyr.tupD, Pyr.run_mul, Pyr.run_mulS, Pyr.run_add, Pyr.run_sub, Pyr.run_addS, Pyr.run_mod, Pyr.run_fdiv, Pyr.run_lt, Pyr.run_le, Pyr.run_gt, Pyr.run_ge, Pyr.run_lenL, Pyr.run_lenT, Pyr.run_lenS, Pyr.run_int, Pyr.run_bool, Pyr.run_truB, Pyr.run_truL, Pyr.run_pur1, Pyr.run_frz1, Pyr.run_pSv, Pyr.run_pSo, Pyr.run_pSe, Pyr.run_fSv, Pyr.run_fSo, Pyr.run_fSe, Pyr.run_pur0, Pyr.run_frz0, Pyr.run_v0n, Pyr.run_v0b, Pyr.run_v0i, Pyr.run_v0s, Pyr.run_v0l, Pyr.run_v0t, Pyr.run_v0o, Pyr.run_vN, Pyr.run_vS, Pyr.run_bad, Pyr.run_exc, Pyr.run_map, Pyr.run_okL, List.length_cons, List.length_nil, Pyr.bind_ok, List.set_cons_zero, List.set_cons_succ, List.getElem?_cons_zero, List.getElem?_cons_succ, Pyr.eqD_int, Pyr.eqD_str, Pyr.neD_int, Pyr.neD_str, if_true, if_false, Bool.not_true, Bool.not_false, Bool.false_eq_true, decide_true, decide_false, Pyr.run_atT0, Pyr.run_atT1, Pyr.run_atT2, Pyr.run_atT3, Pyr.run_atT4, Pyr.run_atL0, Pyr.run_atL1, Pyr.run_atL2, Pyr.run_atL3, Pyr.run_atL4, Pyr.isi_str_n, Pyr.isi_str_b, Pyr.isi_str_i, Pyr.isi_str_s, Pyr.isi_str_l, Pyr.isi_str_t, Pyr.isi_str_d, Pyr.isi_int_n, Pyr.isi_int_b, Pyr.isi_int_i, Pyr.isi_int_s, Pyr.isi_int_l, Pyr.isi_int_t, Pyr.isi_int_d, Pyr.isi_bool_n, Pyr.isi_bool_b, Pyr.isi_bool_i, Pyr.isi_bool_s, Pyr.isi_bool_l, Pyr.isi_bool_t, Pyr.isi_bool_d, Pyr.isi_list_n, Pyr.isi_list_b, Pyr.isi_list_i, Pyr.isi_list_s, Pyr.isi_list_l, Pyr.isi_list_t, Pyr.isi_list_d, Pyr.isi_tuple_n, Pyr.isi_tuple_b, Pyr.isi_tuple_i, Pyr.isi_tuple_s, Pyr.isi_tuple_l, Pyr.isi_tuple_t, Pyr.isi_tuple_d, Pyr.isi_dict_n, Pyr.isi_dict_b, Pyr.isi_dict_i, Pyr.isi_dict_s, Pyr.isi_dict_l, Pyr.isi_dict_t, Pyr.isi_dict_d, Nat.reduceAdd, Int.cast_ofNat_Int, Int.natCast_zero, Int.natCast_one, Int.reduceEq, Int.reduceLT, Int.reduceLE, Int.reduceAdd, Int.reduceSub, Int.reduceMul, Int.reduceNeg, Int.reduceNe, Nat.zero_add, reduceIte, decide_eq_true_eq, beq_self_eq_true, eq_self, Bool.true_or, Bool.or_true, Bool.and_true, Bool.true_and, Bool.false_or, Bool.or_false, Bool.and_false, Bool.false_and, wipeE, v0_ft, hb]
  obtain ⟨bs, rfl⟩ := bools_any ys fun y hy' => by
    obtain ⟨d, _, b, e⟩ := hy y hy'
    exact ⟨y, hy', b, e⟩
  have hc : (lComp [6] (Tg.nm 6) (iF walkD (eVar 4)) tYesR (eCall m__law_same_key (aC (eVar 0) (aC (eVar 6) (aC (eVar 5) Pyr.a0))))) (frzE [.val (.list (S.map tbD)), .val a1, .val a2, .val a3, .own (.lst (acc.map ftD)), .val (ftD f), .emp]) = .ok (bs.map .bool) := lComp_ok (ds := acc.map ftD) rfl (by rw [List.length_map]; omega) e
  exact ⟨bs.any id, any1_ok hc (anyD_bools bs)⟩
theorem database_run (S : List Tb) (ws : List Str) (vs : List Int) (m : Nat) (hS : 1 ≤ S.length) (hS4 : S.length ≤ 4) (hW : ∀ t ∈ S, Wd t.1) (hw : 1 ≤ ws.length) (hws : ∀ w ∈ ws, Wd w) (ht : ∀ t ∈ S, 1 ≤ t.2.1 ∧ t.2.1 ≤ 4) (hv : 5 * m ≤ vs.length) (hm : m ≤ 24) :
    ∃ A : List Ft, Wor 24 S A ∧ m__law_database [.list (S.map tbD), .list (ws.map .str), .list (vs.map .int), .int (m : Int)] = .ok (.val (.list (A.map ftD))) := by
  obtain ⟨fs, f1, f2, f3⟩ := facts_run S ws vs m hS hS4 hw ht hv (by omega)
  have f1 : K06.m__law_facts [.list (S.map tbD), .list (ws.map .str), .list (vs.map .int), .int (m : Int)] = .ok (.own (fs.map ftD)) := f1
  have fok : ∀ f ∈ fs, FtOk f ∧ (∃ t ∈ S, t.1 = f.1) ∧ f.2.length ≤ 4 := fun f hf => by
    obtain ⟨⟨t, h1, h2, h3⟩, h4⟩ := f3 f hf
    exact ⟨⟨h2 ▸ hW t h1, fun w hw => hws w (h4 w hw)⟩, ⟨t, h1, h2⟩, h3 ▸ (ht t h1).2⟩
  obtain ⟨acc, e, ia⟩ := forF_exL (t := Tg.nm 5) (F := B__law_database_0) (fun acc : List Ft => [.val (.list (S.map tbD)), .val (.list (ws.map .str)), .val (.list (vs.map .int)), .val (.int (m : Int)), .own (.lst (acc.map ftD)), .emp, .emp]) (fun k acc => acc.length ≤ k ∧ ∀ g ∈ acc, g ∈ fs)
    (fs.map ftD) 0 [] ⟨Nat.le_refl _, fun g hg => (by cases hg)⟩ fun k acc d hd ⟨i1, i2⟩ => by
      rw [List.getElem?_map] at hd
      obtain ⟨f, hf, rfl⟩ := Option.map_eq_some_iff.mp hd
      have hfm := List.mem_of_getElem? hf
      have hk : k < fs.length := (List.getElem?_eq_some_iff.mp hf).1
      obtain ⟨b, hb⟩ := any_run S acc f (.list (ws.map .str)) (.list (vs.map .int)) (.int (m : Int)) hW (fun g hg => (fok g (i2 g hg)).1) (fok f hfm).1 (by omega)
      cases b with
      | true =>
        refine ⟨acc, _, rfl, .inl ?_, by omega, i2⟩
        unfold B__law_database_0
        rw [seq_ok (ρ' := [.val (.list (S.map tbD)), .val (.list (ws.map .str)), .val (.list (vs.map .int)), .val (.int (m : Int)), .own (.lst (acc.map ftD)), .val (ftD f), .emp]) ?_]
        · rfl
        · have ht : evT (tNotR (tE truD (eN (oneD anyD) (aC (eL (lComp [6] (Tg.nm 6) (iF walkD (eVar 4)) tYesR (eCall m__law_same_key (aC (eVar 0) (aC (eVar 6) (aC (eVar 5) Pyr.a0)))))) Pyr.a0)))) [.val (.list (S.map tbD)), .val (.list (ws.map .str)), .val (.list (vs.map .int)), .val (.int (m : Int)), .own (.lst (acc.map ftD)), .val (ftD f), .emp] = .ok false := by
            unfold evT tNotR tE
            rw [hb]
            rfl
          exact sif_no ht
      | false =>
        refine ⟨acc ++ [f], _, rfl, .inl ?_, by rw [List.length_append]; simp; omega, fun g hg => ?_⟩
        · unfold B__law_database_0
          rw [seq_ok (ρ' := [.val (.list (S.map tbD)), .val (.list (ws.map .str)), .val (.list (vs.map .int)), .val (.int (m : Int)), .own (.lst ((acc ++ [f]).map ftD)), .val (ftD f), .emp]) ?_]
          · rfl
          · have ht : evT (tNotR (tE truD (eN (oneD anyD) (aC (eL (lComp [6] (Tg.nm 6) (iF walkD (eVar 4)) tYesR (eCall m__law_same_key (aC (eVar 0) (aC (eVar 6) (aC (eVar 5) Pyr.a0)))))) Pyr.a0)))) [.val (.list (S.map tbD)), .val (.list (ws.map .str)), .val (.list (vs.map .int)), .val (.int (m : Int)), .own (.lst (acc.map ftD)), .val (ftD f), .emp] = .ok true := by
              unfold evT tNotR tE
              rw [hb]
              rfl
            refine (sif_yes ht).trans ((app_ok (ds := acc.map ftD) (d := ftD f) rfl rfl (by show _ ≤ 100000; rw [List.length_map]; omega)).trans ?_)
            rw [List.map_append]
            try rfl
        · rcases List.mem_append.mp hg with hg | hg
          · exact i2 g hg
          · rw [List.mem_singleton.mp hg]
            exact hfm
  have ins : InS S acc := fun f hf => ⟨(fok f (ia.2 f hf)).1, (fok f (ia.2 f hf)).2.1⟩
  have la : acc.length ≤ 24 := by
    have := ia.1
    rw [List.length_map] at this
    omega
  refine ⟨ascF S acc, ⟨inS_sub ins fun f hf => asc_mem.mp hf, asc_sorted S acc, asc_nodup S acc, Nat.le_trans (asc_le S acc) la, fun f hf => (fok f (ia.2 f (asc_mem.mp hf))).2.2⟩, ?_⟩
  have hasc : K06.m__law_ascending [.list (S.map tbD), .list (acc.map ftD)] = .ok (.own ((ascF S acc).map ftD)) := asc_run S acc (by omega) (by omega) ins
  rw [u__law_database]
  rw [defM_eq (np := 4) rfl]
  show outR (F__law_database [.val (.list (S.map tbD)), .val (.list (ws.map .str)), .val (.list (vs.map .int)), .val (.int (m : Int)), .emp, .emp, .emp]) = _
  unfold F__law_database
  refine seqO (setL_ok (d := []) rfl) ?_
  refine seqO ((for_ok (ds := fs.map ftD) ?_).trans e) ?_
  · refine iF_ok (x := .list (fs.map ftD)) ?_
    simp -implicitDefEqProofs (disch := omega) only [Pyr.run_fSu, Pyr.run_pSu, Pyr.run_ownU, Pyr.RV.d, Pyr.run_flI, Pyr.run_flB, Pyr.run_flS, Pyr.run_flN, Pyr.sSeq, Pyr.sKill, Pyr.run_kill0, Pyr.run_killS, Pyr.sIf, Pyr.sSet, Pyr.sSetL, Pyr.sRet, Pyr.sRetL, Pyr.sRetN, Pyr.sRetO, Pyr.sDrop, Pyr.sApp, Pyr.sNext, Pyr.sFrz, Pyr.sSetT, Pyr.tgF, Pyr.setsF, Pyr.evP, Pyr.evL, Pyr.evT, Pyr.bare, Pyr.eC, Pyr.e1, Pyr.e2, Pyr.eN, Pyr.aC, Pyr.a0, Pyr.eIf, Pyr.eAnd, Pyr.eOr, Pyr.eNot, Pyr.eChain, Pyr.tE, Pyr.tNotR, Pyr.tAndR, Pyr.tOrR, Pyr.eCall, Pyr.lCall, Pyr.iF, Pyr.iF2, Pyr.lN, Pyr.lF, Pyr.eFs, Pyr.jC, Pyr.j0, Pyr.eIxV, Pyr.ownI, Pyr.lAdd, Pyr.sExt, Pyr.sPop, Pyr.trF, Pyr.trsF, Trs.len, Pyr.run_max2, Pyr.run_min2, Pyr.backD, Pyr.eSlice, Pyr.oNone, Pyr.oSome, Pyr.optI, Pyr.lSlice, Pyr.listD, eL, Pyr.eB, Pyr.oneD, Pyr.oneL, Pyr.itemsD, Pyr.outR, Pyr.ownD, Pyr.RV.d, Pyr.tupD, Pyr.run_mul, Pyr.run_mulS, Pyr.run_add, Pyr.run_sub, Pyr.run_addS, Pyr.run_mod, Pyr.run_fdiv, Pyr.run_lt, Pyr.run_le, Pyr.run_gt, Pyr.run_ge, Pyr.run_lenL, Pyr.run_lenT, Pyr.run_lenS, Pyr.run_int, Pyr.run_bool, Pyr.run_truB, Pyr.run_truL, Pyr.run_pur1, Pyr.run_frz1, Pyr.run_pSv, Pyr.run_pSo, Pyr.run_pSe, Pyr.run_fSv, Pyr.run_fSo, Pyr.run_fSe, Pyr.run_pur0, Pyr.run_frz0, Pyr.run_v0n, Pyr.run_v0b, Pyr.run_v0i, Pyr.run_v0s, Pyr.run_v0l, Pyr.run_v0t, Pyr.run_v0o, Pyr.run_vN, Pyr.run_vS, Pyr.run_bad, Pyr.run_exc, Pyr.run_map, Pyr.run_okL, List.length_cons, List.length_nil, Pyr.bind_ok, List.set_cons_zero, List.set_cons_succ, List.getElem?_cons_zero, List.getElem?_cons_succ, Pyr.eqD_int, Pyr.eqD_str, Pyr.neD_int, Pyr.neD_str, if_true, if_false, Bool.not_true, Bool.not_false, Bool.false_eq_true, decide_true, decide_false, Pyr.run_atT0, Pyr.run_atT1, Pyr.run_atT2, Pyr.run_atT3, Pyr.run_atT4, Pyr.run_atL0, Pyr.run_atL1, Pyr.run_atL2, Pyr.run_atL3, Pyr.run_atL4, Pyr.isi_str_n, Pyr.isi_str_b, Pyr.isi_str_i, Pyr.isi_str_s, Pyr.isi_str_l, Pyr.isi_str_t, Pyr.isi_str_d, Pyr.isi_int_n, Pyr.isi_int_b, Pyr.isi_int_i, Pyr.isi_int_s, Pyr.isi_int_l, Pyr.isi_int_t, Pyr.isi_int_d, Pyr.isi_bool_n, Pyr.isi_bool_b, Pyr.isi_bool_i, Pyr.isi_bool_s, Pyr.isi_bool_l, Pyr.isi_bool_t, Pyr.isi_bool_d, Pyr.isi_list_n, Pyr.isi_list_b, Pyr.isi_list_i, Pyr.isi_list_s, Pyr.isi_list_l, Pyr.isi_list_t, Pyr.isi_list_d, Pyr.isi_tuple_n, Pyr.isi_tuple_b, Pyr.isi_tuple_i, Pyr.isi_tuple_s, Pyr.isi_tuple_l, Pyr.isi_tuple_t, Pyr.isi_tuple_d, Pyr.isi_dict_n, Pyr.isi_dict_b, Pyr.isi_dict_i, Pyr.isi_dict_s, Pyr.isi_dict_l, Pyr.isi_dict_t, Pyr.isi_dict_d, Nat.reduceAdd, Int.cast_ofNat_Int, Int.natCast_zero, Int.natCast_one, Int.reduceEq, Int.reduceLT, Int.reduceLE, Int.reduceAdd, Int.reduceSub, Int.reduceMul, Int.reduceNeg, Int.reduceNe, Nat.zero_add, reduceIte, decide_eq_true_eq, beq_self_eq_true, eq_self, Bool.true_or, Bool.or_true, Bool.and_true, Bool.true_and, Bool.false_or, Bool.or_false, Bool.and_false, Bool.false_and, f1]
  · simp -implicitDefEqProofs (disch := omega) only [Pyr.run_fSu, Pyr.run_pSu, Pyr.run_ownU, Pyr.RV.d, Pyr.run_flI, Pyr.run_flB, Pyr.run_flS, Pyr.run_flN, Pyr.sSeq, Pyr.sKill, Pyr.run_kill0, Pyr.run_killS, Pyr.sIf, Pyr.sSet, Pyr.sSetL, Pyr.sRet, Pyr.sRetL, Pyr.sRetN, Pyr.sRetO, Pyr.sDrop, Pyr.sApp, Pyr.sNext, Pyr.sFrz, Pyr.sSetT, Pyr.tgF, Pyr.setsF, Pyr.evP, Pyr.evL, Pyr.evT, Pyr.bare, Pyr.eC, Pyr.e1, Pyr.e2, Pyr.eN, Pyr.aC, Pyr.a0, Pyr.eIf, Pyr.eAnd, Pyr.eOr, Pyr.eNot, Pyr.eChain, Pyr.tE, Pyr.tNotR, Pyr.tAndR, Pyr.tOrR, Pyr.eCall, Pyr.lCall, Pyr.iF, Pyr.iF2, Pyr.lN, Pyr.lF, Pyr.eFs, Pyr.jC, Pyr.j0, Pyr.eIxV, Pyr.ownI, Pyr.lAdd, Pyr.sExt, Pyr.sPop, Pyr.trF, Pyr.trsF, Trs.len, Pyr.run_max2, Pyr.run_min2, Pyr.backD, Pyr.eSlice, Pyr.oNone, Pyr.oSome, Pyr.optI, Pyr.lSlice, Pyr.listD, eL, Pyr.eB, Pyr.oneD, Pyr.oneL, Pyr.itemsD, Pyr.outR, Pyr.ownD, Pyr.RV.d, Pyr.tupD, Pyr.run_mul, Pyr.run_mulS, Pyr.run_add, Pyr.run_sub, Pyr.run_addS, Pyr.run_mod, Pyr.run_fdiv, Pyr.run_lt, Pyr.run_le, Pyr.run_gt, Pyr.run_ge, Pyr.run_lenL, Pyr.run_lenT, Pyr.run_lenS, Pyr.run_int, Pyr.run_bool, Pyr.run_truB, Pyr.run_truL, Pyr.run_pur1, Pyr.run_frz1, Pyr.run_pSv, Pyr.run_pSo, Pyr.run_pSe, Pyr.run_fSv, Pyr.run_fSo, Pyr.run_fSe, Pyr.run_pur0, Pyr.run_frz0, Pyr.run_v0n, Pyr.run_v0b, Pyr.run_v0i, Pyr.run_v0s, Pyr.run_v0l, Pyr.run_v0t, Pyr.run_v0o, Pyr.run_vN, Pyr.run_vS, Pyr.run_bad, Pyr.run_exc, Pyr.run_map, Pyr.run_okL, List.length_cons, List.length_nil, Pyr.bind_ok, List.set_cons_zero, List.set_cons_succ, List.getElem?_cons_zero, List.getElem?_cons_succ, Pyr.eqD_int, Pyr.eqD_str, Pyr.neD_int, Pyr.neD_str, if_true, if_false, Bool.not_true, Bool.not_false, Bool.false_eq_true, decide_true, decide_false, Pyr.run_atT0, Pyr.run_atT1, Pyr.run_atT2, Pyr.run_atT3, Pyr.run_atT4, Pyr.run_atL0, Pyr.run_atL1, Pyr.run_atL2, Pyr.run_atL3, Pyr.run_atL4, Pyr.isi_str_n, Pyr.isi_str_b, Pyr.isi_str_i, Pyr.isi_str_s, Pyr.isi_str_l, Pyr.isi_str_t, Pyr.isi_str_d, Pyr.isi_int_n, Pyr.isi_int_b, Pyr.isi_int_i, Pyr.isi_int_s, Pyr.isi_int_l, Pyr.isi_int_t, Pyr.isi_int_d, Pyr.isi_bool_n, Pyr.isi_bool_b, Pyr.isi_bool_i, Pyr.isi_bool_s, Pyr.isi_bool_l, Pyr.isi_bool_t, Pyr.isi_bool_d, Pyr.isi_list_n, Pyr.isi_list_b, Pyr.isi_list_i, Pyr.isi_list_s, Pyr.isi_list_l, Pyr.isi_list_t, Pyr.isi_list_d, Pyr.isi_tuple_n, Pyr.isi_tuple_b, Pyr.isi_tuple_i, Pyr.isi_tuple_s, Pyr.isi_tuple_l, Pyr.isi_tuple_t, Pyr.isi_tuple_d, Pyr.isi_dict_n, Pyr.isi_dict_b, Pyr.isi_dict_i, Pyr.isi_dict_s, Pyr.isi_dict_l, Pyr.isi_dict_t, Pyr.isi_dict_d, Nat.reduceAdd, Int.cast_ofNat_Int, Int.natCast_zero, Int.natCast_one, Int.reduceEq, Int.reduceLT, Int.reduceLE, Int.reduceAdd, Int.reduceSub, Int.reduceMul, Int.reduceNeg, Int.reduceNe, Nat.zero_add, reduceIte, decide_eq_true_eq, beq_self_eq_true, eq_self, Bool.true_or, Bool.or_true, Bool.and_true, Bool.true_and, Bool.false_or, Bool.or_false, Bool.and_false, Bool.false_and, hasc]
/-! ### after, inverse -/
theorem inverse_run (xs ys : List Pyr.D) : m_inverse [.tuple [.list xs, .list ys]] = .ok (.ownU [ys, xs]) := by
  rw [u_inverse]
  rw [defM_eq (np := 1) rfl]
  show outR (F_inverse [.val (.tuple [.list xs, .list ys]), .emp, .emp]) = _
  unfold F_inverse
  refine seqO (ρ' := [.val (.tuple [.list xs, .list ys]), .val (.list xs), .val (.list ys)]) (by simp -implicitDefEqProofs (disch := omega) only [Pyr.run_fSu, Pyr.run_pSu, Pyr.run_ownU, Pyr.RV.d, Pyr.run_flI, Pyr.run_flB, Pyr.run_flS, Pyr.run_flN, Pyr.sSeq, Pyr.sKill, Pyr.run_kill0, Pyr.run_killS, Pyr.sIf, Pyr.sSet, Pyr.sSetL, Pyr.sRet, Pyr.sRetL, Pyr.sRetN, Pyr.sRetO, Pyr.sDrop, Pyr.sApp, Pyr.sNext, Pyr.sFrz, Pyr.sSetT, Pyr.tgF, Pyr.setsF, Pyr.evP, Pyr.evL, Pyr.evT, Pyr.bare, Pyr.eC, Pyr.e1, Pyr.e2, Pyr.eN, Pyr.aC, Pyr.a0, Pyr.eIf, Pyr.eAnd, Pyr.eOr, Pyr.eNot, Pyr.eChain, Pyr.tE, Pyr.tNotR, Pyr.tAndR, Pyr.tOrR, Pyr.eCall, Pyr.lCall, Pyr.iF, Pyr.iF2, Pyr.lN, Pyr.lF, Pyr.eFs, Pyr.jC, Pyr.j0, Pyr.eIxV, Pyr.ownI, Pyr.lAdd, Pyr.sExt, Pyr.sPop, Pyr.trF, Pyr.trsF, Trs.len, Pyr.run_max2, Pyr.run_min2, Pyr.backD, Pyr.eSlice, Pyr.oNone, Pyr.oSome, Pyr.optI, Pyr.lSlice, Pyr.listD, eL, Pyr.eB, Pyr.oneD, Pyr.oneL, Pyr.itemsD, Pyr.outR, Pyr.ownD, Pyr.RV.d, Pyr.tupD, Pyr.run_mul, Pyr.run_mulS, Pyr.run_add, Pyr.run_sub, Pyr.run_addS, Pyr.run_mod, Pyr.run_fdiv, Pyr.run_lt, Pyr.run_le, Pyr.run_gt, Pyr.run_ge, Pyr.run_lenL, Pyr.run_lenT, Pyr.run_lenS, Pyr.run_int, Pyr.run_bool, Pyr.run_truB, Pyr.run_truL, Pyr.run_pur1, Pyr.run_frz1, Pyr.run_pSv, Pyr.run_pSo, Pyr.run_pSe, Pyr.run_fSv, Pyr.run_fSo, Pyr.run_fSe, Pyr.run_pur0, Pyr.run_frz0, Pyr.run_v0n, Pyr.run_v0b, Pyr.run_v0i, Pyr.run_v0s, Pyr.run_v0l, Pyr.run_v0t, Pyr.run_v0o, Pyr.run_vN, Pyr.run_vS, Pyr.run_bad, Pyr.run_exc, Pyr.run_map, Pyr.run_okL, List.length_cons, List.length_nil, Pyr.bind_ok, List.set_cons_zero, List.set_cons_succ, List.getElem?_cons_zero, List.getElem?_cons_succ, Pyr.eqD_int, Pyr.eqD_str, Pyr.neD_int, Pyr.neD_str, if_true, if_false, Bool.not_true, Bool.not_false, Bool.false_eq_true, decide_true, decide_false, Pyr.run_atT0, Pyr.run_atT1, Pyr.run_atT2, Pyr.run_atT3, Pyr.run_atT4, Pyr.run_atL0, Pyr.run_atL1, Pyr.run_atL2, Pyr.run_atL3, Pyr.run_atL4, Pyr.isi_str_n, Pyr.isi_str_b, Pyr.isi_str_i, Pyr.isi_str_s, Pyr.isi_str_l, Pyr.isi_str_t, Pyr.isi_str_d, Pyr.isi_int_n, Pyr.isi_int_b, Pyr.isi_int_i, Pyr.isi_int_s, Pyr.isi_int_l, Pyr.isi_int_t, Pyr.isi_int_d, Pyr.isi_bool_n, Pyr.isi_bool_b, Pyr.isi_bool_i, Pyr.isi_bool_s, Pyr.isi_bool_l, Pyr.isi_bool_t, Pyr.isi_bool_d, Pyr.isi_list_n, Pyr.isi_list_b, Pyr.isi_list_i, Pyr.isi_list_s, Pyr.isi_list_l, Pyr.isi_list_t, Pyr.isi_list_d, Pyr.isi_tuple_n, Pyr.isi_tuple_b, Pyr.isi_tuple_i, Pyr.isi_tuple_s, Pyr.isi_tuple_l, Pyr.isi_tuple_t, Pyr.isi_tuple_d, Pyr.isi_dict_n, Pyr.isi_dict_b, Pyr.isi_dict_i, Pyr.isi_dict_s, Pyr.isi_dict_l, Pyr.isi_dict_t, Pyr.isi_dict_d, Nat.reduceAdd, Int.cast_ofNat_Int, Int.natCast_zero, Int.natCast_one, Int.reduceEq, Int.reduceLT, Int.reduceLE, Int.reduceAdd, Int.reduceSub, Int.reduceMul, Int.reduceNeg, Int.reduceNe, Nat.zero_add, reduceIte, decide_eq_true_eq, beq_self_eq_true, eq_self, Bool.true_or, Bool.or_true, Bool.and_true, Bool.true_and, Bool.false_or, Bool.or_false, Bool.and_false, Bool.false_and, setsF]) ?_
  rfl
theorem after_run {n : Nat} (S : List Tb) (A Dl In : List Ft) (hn : n ≤ 30) (hS : S.length ≤ 4) (hA : Wor n S A) (hI : InS S In) (lI : In.length ≤ 24) (lD : Dl.length ≤ 63) : m_after [.list (S.map tbD), .list (A.map ftD), chD (Dl, In)] = .ok (.val (.list ((ascF S (minusF A Dl ++ In)).map ftD))) := by
  have a := hA.len
  have l1 := minus_len A Dl
  have w1 := without_q A Dl (by omega) (by omega)
  have inS : InS S (minusF A Dl ++ In) := fun f hf => (List.mem_append.mp hf).elim (fun h => hA.ins f (mem_minus.mp h).1) (hI f)
  have s1 := ascending_q S (minusF A Dl ++ In) (by omega) (by rw [List.length_append]; omega) inS
  rw [List.map_append] at s1
  rw [u_after]
  rw [defM_eq (np := 3) rfl]
  show outR (F_after [.val (.list (S.map tbD)), .val (.list (A.map ftD)), .val (.tuple [.list (Dl.map ftD), .list (In.map ftD)]), .emp, .emp]) = _
  unfold F_after
  have ad : addD (.list ((minusF A Dl).map ftD)) (.list (In.map ftD)) = .ok (.list ((minusF A Dl).map ftD ++ In.map ftD)) := okL_ok (by show _ ≤ 100000; rw [List.length_map, List.length_map]; omega)
  simp -implicitDefEqProofs (disch := omega) only [Pyr.run_fSu, Pyr.run_pSu, Pyr.run_ownU, Pyr.RV.d, Pyr.run_flI, Pyr.run_flB, Pyr.run_flS, Pyr.run_flN, Pyr.sSeq, Pyr.sKill, Pyr.run_kill0, Pyr.run_killS, Pyr.sIf, Pyr.sSet, Pyr.sSetL, Pyr.sRet, Pyr.sRetL, Pyr.sRetN, Pyr.sRetO, Pyr.sDrop, Pyr.sApp, Pyr.sNext, Pyr.sFrz, Pyr.sSetT, Pyr.tgF, Pyr.setsF, Pyr.evP, Pyr.evL, Pyr.evT, Pyr.bare, Pyr.eC, Pyr.e1, Pyr.e2, Pyr.eN, Pyr.aC, Pyr.a0, Pyr.eIf, Pyr.eAnd, Pyr.eOr, Pyr.eNot, Pyr.eChain, Pyr.tE, Pyr.tNotR, Pyr.tAndR, Pyr.tOrR, Pyr.eCall, Pyr.lCall, Pyr.iF, Pyr.iF2, Pyr.lN, Pyr.lF, Pyr.eFs, Pyr.jC, Pyr.j0, Pyr.eIxV, Pyr.ownI, Pyr.lAdd, Pyr.sExt, Pyr.sPop, Pyr.trF, Pyr.trsF, Trs.len, Pyr.run_max2, Pyr.run_min2, Pyr.backD, Pyr.eSlice, Pyr.oNone, Pyr.oSome, Pyr.optI, Pyr.lSlice, Pyr.listD, eL, Pyr.eB, Pyr.oneD, Pyr.oneL, Pyr.itemsD, Pyr.outR, Pyr.ownD, Pyr.RV.d, Pyr.tupD, Pyr.run_mul, Pyr.run_mulS, Pyr.run_add, Pyr.run_sub, Pyr.run_addS, Pyr.run_mod, Pyr.run_fdiv, Pyr.run_lt, Pyr.run_le, Pyr.run_gt, Pyr.run_ge, Pyr.run_lenL, Pyr.run_lenT, Pyr.run_lenS, Pyr.run_int, Pyr.run_bool, Pyr.run_truB, Pyr.run_truL, Pyr.run_pur1, Pyr.run_frz1, Pyr.run_pSv, Pyr.run_pSo, Pyr.run_pSe, Pyr.run_fSv, Pyr.run_fSo, Pyr.run_fSe, Pyr.run_pur0, Pyr.run_frz0, Pyr.run_v0n, Pyr.run_v0b, Pyr.run_v0i, Pyr.run_v0s, Pyr.run_v0l, Pyr.run_v0t, Pyr.run_v0o, Pyr.run_vN, Pyr.run_vS, Pyr.run_bad, Pyr.run_exc, Pyr.run_map, Pyr.run_okL, List.length_cons, List.length_nil, Pyr.bind_ok, List.set_cons_zero, List.set_cons_succ, List.getElem?_cons_zero, List.getElem?_cons_succ, Pyr.eqD_int, Pyr.eqD_str, Pyr.neD_int, Pyr.neD_str, if_true, if_false, Bool.not_true, Bool.not_false, Bool.false_eq_true, decide_true, decide_false, Pyr.run_atT0, Pyr.run_atT1, Pyr.run_atT2, Pyr.run_atT3, Pyr.run_atT4, Pyr.run_atL0, Pyr.run_atL1, Pyr.run_atL2, Pyr.run_atL3, Pyr.run_atL4, Pyr.isi_str_n, Pyr.isi_str_b, Pyr.isi_str_i, Pyr.isi_str_s, Pyr.isi_str_l, Pyr.isi_str_t, Pyr.isi_str_d, Pyr.isi_int_n, Pyr.isi_int_b, Pyr.isi_int_i, Pyr.isi_int_s, Pyr.isi_int_l, Pyr.isi_int_t, Pyr.isi_int_d, Pyr.isi_bool_n, Pyr.isi_bool_b, Pyr.isi_bool_i, Pyr.isi_bool_s, Pyr.isi_bool_l, Pyr.isi_bool_t, Pyr.isi_bool_d, Pyr.isi_list_n, Pyr.isi_list_b, Pyr.isi_list_i, Pyr.isi_list_s, Pyr.isi_list_l, Pyr.isi_list_t, Pyr.isi_list_d, Pyr.isi_tuple_n, Pyr.isi_tuple_b, Pyr.isi_tuple_i, Pyr.isi_tuple_s, Pyr.isi_tuple_l, Pyr.isi_tuple_t, Pyr.isi_tuple_d, Pyr.isi_dict_n, Pyr.isi_dict_b, Pyr.isi_dict_i, Pyr.isi_dict_s, Pyr.isi_dict_l, Pyr.isi_dict_t, Pyr.isi_dict_d, Nat.reduceAdd, Int.cast_ofNat_Int, Int.natCast_zero, Int.natCast_one, Int.reduceEq, Int.reduceLT, Int.reduceLE, Int.reduceAdd, Int.reduceSub, Int.reduceMul, Int.reduceNeg, Int.reduceNe, Nat.zero_add, reduceIte, decide_eq_true_eq, beq_self_eq_true, eq_self, Bool.true_or, Bool.or_true, Bool.and_true, Bool.true_and, Bool.false_or, Bool.or_false, Bool.and_false, Bool.false_and, setsF, w1, ad, s1]
theorem range_at {α : Type} (d : α) (A : List α) : (List.range' 0 A.length).map (fun k => A.getD k d) = A := by
  refine List.ext_getElem (by rw [List.length_map, List.length_range']) fun i h1 h2 => ?_
  rw [List.getElem_map, List.getElem_range', List.getD_eq_getElem?_getD, Nat.one_mul, Nat.zero_add, List.getElem?_eq_getElem h2]
  rfl
theorem law_true (ns : List Int) (h : ns.length ≤ 63) : m_law [scriptD ns] = .ok (.val (.bool true)) := by
  obtain ⟨vs, e1, l1, d1⟩ := draws_run ns 180 h (by omega)
  have e1 : K06.m__law_draws [.list (ns.map .int), .int 180] = .ok (.own (vs.map .int)) := e1
  have da : ∀ k : Nat, (hk : k < 180) → atD (.list (vs.map .int)) (.int (k : Int)) = .ok (.int (vs[k]'(by omega))) := fun k hk => int_at (by omega)
  have dd : ∀ k : Nat, (hk : k < 180) → 0 ≤ vs[k]'(by omega) ∧ vs[k]'(by omega) < 1000 := fun k hk => d1 _ (List.getElem_mem _)
  have a0 : atD (.list (vs.map .int)) (.int 0) = .ok (.int (vs[0]'(by omega))) := da 0 (by omega)
  have a1 : atD (.list (vs.map .int)) (.int 1) = .ok (.int (vs[1]'(by omega))) := da 1 (by omega)
  have a2 : atD (.list (vs.map .int)) (.int 2) = .ok (.int (vs[2]'(by omega))) := da 2 (by omega)
  have a3 : atD (.list (vs.map .int)) (.int 3) = .ok (.int (vs[3]'(by omega))) := da 3 (by omega)
  have a43 : atD (.list (vs.map .int)) (.int 43) = .ok (.int (vs[43]'(by omega))) := da 43 (by omega)
  have a44 : atD (.list (vs.map .int)) (.int 44) = .ok (.int (vs[44]'(by omega))) := da 44 (by omega)
  have a45 : atD (.list (vs.map .int)) (.int 45) = .ok (.int (vs[45]'(by omega))) := da 45 (by omega)
  have a46 : atD (.list (vs.map .int)) (.int 46) = .ok (.int (vs[46]'(by omega))) := da 46 (by omega)
  have a171 : atD (.list (vs.map .int)) (.int 171) = .ok (.int (vs[171]'(by omega))) := da 171 (by omega)
  obtain ⟨ps, e2, l2, w2, n2⟩ := pool_run vs[0] vs[1] 4 (by omega) (dd 0 (by omega)) (dd 1 (by omega))
  obtain ⟨ws, e3, l3, w3, n3⟩ := pool_run vs[2] vs[3] 3 (by omega) (dd 2 (by omega)) (dd 3 (by omega))
  obtain ⟨us, e5, l5, w5, _⟩ := pool_run3 vs[45] (vs[46] + 1) 6 (by omega) (dd 45 (by omega)) ⟨by have := (dd 46 (by omega)).1; omega, by have := (dd 46 (by omega)).2; omega⟩
  have e2 : K06.m__law_pool [.int vs[0], .int vs[1], .int 4] = .ok (.own (ps.map .str)) := e2
  have e3 : K06.m__law_pool [.int vs[2], .int vs[3], .int 3] = .ok (.own (ws.map .str)) := e3
  have e5 : K06.m__law_pool [.int vs[45], .int (vs[46] + 1), .int 6] = .ok (.own (us.map .str)) := e5
  have sl : ∀ (a b : Nat), a ≤ b → b ≤ 180 → sliceD (.list (vs.map .int)) (some (a : Int)) (some (b : Int)) = .ok (.list (((vs.drop a).take (b - a)).map .int)) := fun a b h1 h2 => congrArg (fun z => Res.ok (PyData.list z)) (cut_map vs a b h1 (by omega))
  have ll : ∀ (a b : Nat), a + b ≤ 180 → ((vs.drop a).take b).length = b := fun a b h => by rw [List.length_take, List.length_drop]; omega
  obtain ⟨S, e4, s1, s4, sS⟩ := schema_run ((vs.drop 4).take 9) ps (ll 4 9 (by omega)) (by omega)
  have e4 : K06.m__law_schema [.list (((vs.drop 4).take 9).map .int), .list (ps.map .str)] = .ok (.own (S.map tbD)) := e4
  have sw : ∀ t ∈ S, 1 ≤ t.2.1 ∧ t.2.1 ≤ 4 := fun t ht => ⟨(sS t ht).2.1, (sS t ht).2.2.1⟩
  have hW : ∀ t ∈ S, Wd t.1 := fun t ht => w2 _ (sS t ht).1
  have c4 : sliceD (.list (vs.map .int)) (some 4) (some 13) = .ok (.list (((vs.drop 4).take 9).map .int)) := sl 4 13 (by omega) (by omega)
  have c50 : sliceD (.list (vs.map .int)) (some 50) (some 170) = .ok (.list (((vs.drop 50).take 120).map .int)) := sl 50 170 (by omega) (by omega)
  have c140 : sliceD (.list (vs.map .int)) (some 140) (some 165) = .ok (.list (((vs.drop 140).take 25).map .int)) := sl 140 165 (by omega) (by omega)
  have lp50 := ll 50 120 (by omega)
  have lp140 := ll 140 25 (by omega)
  have aw : addD (.list (ws.map .str)) (.list (us.map .str)) = .ok (.list ((ws ++ us).map .str)) := by
    rw [List.map_append]
    exact okL_ok (by show _ ≤ 100000; rw [List.length_map, List.length_map]; omega)
  obtain ⟨m7, em7, hm7⟩ := fmod_nat vs[43] (m := 7) (by decide)
  have em7 : vs[43].fmod 7 = (m7 : Int) := em7
  obtain ⟨m6, em6, hm6⟩ := fmod_nat vs[171] (m := 6) (by decide)
  have em6 : vs[171].fmod 6 = (m6 : Int) := em6
  generalize (vs.drop 50).take 120 = p50 at c50 lp50
  generalize (vs.drop 140).take 25 = p140 at c140 lp140
  generalize (vs.drop 4).take 9 = p4 at c4 e4
  -- the database
  obtain ⟨m, hm, estep⟩ : ∃ m : Nat, m ≤ 24 ∧ outR (T_law_5 [.val (.list (ns.map .int)), .val (.list (vs.map .int)), .val (.list (ps.map .str)), .val (.list (ws.map .str)), .val (.list (S.map tbD)), .val (.int (m7 : Int)), .emp, .emp, .emp, .emp, .emp, .emp, .emp, .emp, .emp, .emp]) = outR (T_law_6 [.val (.list (ns.map .int)), .val (.list (vs.map .int)), .val (.list (ps.map .str)), .val (.list (ws.map .str)), .val (.list (S.map tbD)), .val (.int (m : Int)), .emp, .emp, .emp, .emp, .emp, .emp, .emp, .emp, .emp, .emp]) := by
    by_cases h4 : vs[44].fmod 5 = 4
    · refine ⟨24, Nat.le_refl _, ?_⟩
      unfold T_law_5
      refine seqO (by simp -implicitDefEqProofs (disch := omega) only [Pyr.run_fSu, Pyr.run_pSu, Pyr.run_ownU, Pyr.RV.d, Pyr.run_flI, Pyr.run_flB, Pyr.run_flS, Pyr.run_flN, Pyr.sSeq, Pyr.sKill, Pyr.run_kill0, Pyr.run_killS, Pyr.sIf, Pyr.sSet, Pyr.sSetL, Pyr.sRet, Pyr.sRetL, Pyr.sRetN, Pyr.sRetO, Pyr.sDrop, Pyr.sApp, Pyr.sNext, Pyr.sFrz, Pyr.sSetT, Pyr.tgF, Pyr.setsF, Pyr.evP, Pyr.evL, Pyr.evT, Pyr.bare, Pyr.eC, Pyr.e1, Pyr.e2, Pyr.eN, Pyr.aC, Pyr.a0, Pyr.eIf, Pyr.eAnd, Pyr.eOr, Pyr.eNot, Pyr.eChain, Pyr.tE, Pyr.tNotR, Pyr.tAndR, Pyr.tOrR, Pyr.eCall, Pyr.lCall, Pyr.iF, Pyr.iF2, Pyr.lN, Pyr.lF, Pyr.eFs, Pyr.jC, Pyr.j0, Pyr.eIxV, Pyr.ownI, Pyr.lAdd, Pyr.sExt, Pyr.sPop, Pyr.trF, Pyr.trsF, Trs.len, Pyr.run_max2, Pyr.run_min2, Pyr.backD, Pyr.eSlice, Pyr.oNone, Pyr.oSome, Pyr.optI, Pyr.lSlice, Pyr.listD, eL, Pyr.eB, Pyr.oneD, Pyr.oneL, Pyr.itemsD, Pyr.outR, Pyr.ownD, Pyr.RV.d, Pyr.tupD, Pyr.run_mul, Pyr.run_mulS, Pyr.run_add, Pyr.run_sub, Pyr.run_addS, Pyr.run_mod, Pyr.run_fdiv, Pyr.run_lt, Pyr.run_le, Pyr.run_gt, Pyr.run_ge, Pyr.run_lenL, Pyr.run_lenT, Pyr.run_lenS, Pyr.run_int, Pyr.run_bool, Pyr.run_truB, Pyr.run_truL, Pyr.run_pur1, Pyr.run_frz1, Pyr.run_pSv, Pyr.run_pSo, Pyr.run_pSe, Pyr.run_fSv, Pyr.run_fSo, Pyr.run_fSe, Pyr.run_pur0, Pyr.run_frz0, Pyr.run_v0n, Pyr.run_v0b, Pyr.run_v0i, Pyr.run_v0s, Pyr.run_v0l, Pyr.run_v0t, Pyr.run_v0o, Pyr.run_vN, Pyr.run_vS, Pyr.run_bad, Pyr.run_exc, Pyr.run_map, Pyr.run_okL, List.length_cons, List.length_nil, Pyr.bind_ok, List.set_cons_zero, List.set_cons_succ, List.getElem?_cons_zero, List.getElem?_cons_succ, Pyr.eqD_int, Pyr.eqD_str, Pyr.neD_int, Pyr.neD_str, if_true, if_false, Bool.not_true, Bool.not_false, Bool.false_eq_true, decide_true, decide_false, Pyr.run_atT0, Pyr.run_atT1, Pyr.run_atT2, Pyr.run_atT3, Pyr.run_atT4, Pyr.run_atL0, Pyr.run_atL1, Pyr.run_atL2, Pyr.run_atL3, Pyr.run_atL4, Pyr.isi_str_n, Pyr.isi_str_b, Pyr.isi_str_i, Pyr.isi_str_s, Pyr.isi_str_l, Pyr.isi_str_t, Pyr.isi_str_d, Pyr.isi_int_n, Pyr.isi_int_b, Pyr.isi_int_i, Pyr.isi_int_s, Pyr.isi_int_l, Pyr.isi_int_t, Pyr.isi_int_d, Pyr.isi_bool_n, Pyr.isi_bool_b, Pyr.isi_bool_i, Pyr.isi_bool_s, Pyr.isi_bool_l, Pyr.isi_bool_t, Pyr.isi_bool_d, Pyr.isi_list_n, Pyr.isi_list_b, Pyr.isi_list_i, Pyr.isi_list_s, Pyr.isi_list_l, Pyr.isi_list_t, Pyr.isi_list_d, Pyr.isi_tuple_n, Pyr.isi_tuple_b, Pyr.isi_tuple_i, Pyr.isi_tuple_s, Pyr.isi_tuple_l, Pyr.isi_tuple_t, Pyr.isi_tuple_d, Pyr.isi_dict_n, Pyr.isi_dict_b, Pyr.isi_dict_i, Pyr.isi_dict_s, Pyr.isi_dict_l, Pyr.isi_dict_t, Pyr.isi_dict_d, Nat.reduceAdd, Int.cast_ofNat_Int, Int.natCast_zero, Int.natCast_one, Int.reduceEq, Int.reduceLT, Int.reduceLE, Int.reduceAdd, Int.reduceSub, Int.reduceMul, Int.reduceNeg, Int.reduceNe, Nat.zero_add, reduceIte, decide_eq_true_eq, beq_self_eq_true, eq_self, Bool.true_or, Bool.or_true, Bool.and_true, Bool.true_and, Bool.false_or, Bool.or_false, Bool.and_false, Bool.false_and, a44, h4]; try rfl) rfl
    · refine ⟨m7, by omega, ?_⟩
      unfold T_law_5
      refine seqO (by simp -implicitDefEqProofs (disch := omega) only [Pyr.run_fSu, Pyr.run_pSu, Pyr.run_ownU, Pyr.RV.d, Pyr.run_flI, Pyr.run_flB, Pyr.run_flS, Pyr.run_flN, Pyr.sSeq, Pyr.sKill, Pyr.run_kill0, Pyr.run_killS, Pyr.sIf, Pyr.sSet, Pyr.sSetL, Pyr.sRet, Pyr.sRetL, Pyr.sRetN, Pyr.sRetO, Pyr.sDrop, Pyr.sApp, Pyr.sNext, Pyr.sFrz, Pyr.sSetT, Pyr.tgF, Pyr.setsF, Pyr.evP, Pyr.evL, Pyr.evT, Pyr.bare, Pyr.eC, Pyr.e1, Pyr.e2, Pyr.eN, Pyr.aC, Pyr.a0, Pyr.eIf, Pyr.eAnd, Pyr.eOr, Pyr.eNot, Pyr.eChain, Pyr.tE, Pyr.tNotR, Pyr.tAndR, Pyr.tOrR, Pyr.eCall, Pyr.lCall, Pyr.iF, Pyr.iF2, Pyr.lN, Pyr.lF, Pyr.eFs, Pyr.jC, Pyr.j0, Pyr.eIxV, Pyr.ownI, Pyr.lAdd, Pyr.sExt, Pyr.sPop, Pyr.trF, Pyr.trsF, Trs.len, Pyr.run_max2, Pyr.run_min2, Pyr.backD, Pyr.eSlice, Pyr.oNone, Pyr.oSome, Pyr.optI, Pyr.lSlice, Pyr.listD, eL, Pyr.eB, Pyr.oneD, Pyr.oneL, Pyr.itemsD, Pyr.outR, Pyr.ownD, Pyr.RV.d, Pyr.tupD, Pyr.run_mul, Pyr.run_mulS, Pyr.run_add, Pyr.run_sub, Pyr.run_addS, Pyr.run_mod, Pyr.run_fdiv, Pyr.run_lt, Pyr.run_le, Pyr.run_gt, Pyr.run_ge, Pyr.run_lenL, Pyr.run_lenT, Pyr.run_lenS, Pyr.run_int, Pyr.run_bool, Pyr.run_truB, Pyr.run_truL, Pyr.run_pur1, Pyr.run_frz1, Pyr.run_pSv, Pyr.run_pSo, Pyr.run_pSe, Pyr.run_fSv, Pyr.run_fSo, Pyr.run_fSe, Pyr.run_pur0, Pyr.run_frz0, Pyr.run_v0n, Pyr.run_v0b, Pyr.run_v0i, Pyr.run_v0s, Pyr.run_v0l, Pyr.run_v0t, Pyr.run_v0o, Pyr.run_vN, Pyr.run_vS, Pyr.run_bad, Pyr.run_exc, Pyr.run_map, Pyr.run_okL, List.length_cons, List.length_nil, Pyr.bind_ok, List.set_cons_zero, List.set_cons_succ, List.getElem?_cons_zero, List.getElem?_cons_succ, Pyr.eqD_int, Pyr.eqD_str, Pyr.neD_int, Pyr.neD_str, if_true, if_false, Bool.not_true, Bool.not_false, Bool.false_eq_true, decide_true, decide_false, Pyr.run_atT0, Pyr.run_atT1, Pyr.run_atT2, Pyr.run_atT3, Pyr.run_atT4, Pyr.run_atL0, Pyr.run_atL1, Pyr.run_atL2, Pyr.run_atL3, Pyr.run_atL4, Pyr.isi_str_n, Pyr.isi_str_b, Pyr.isi_str_i, Pyr.isi_str_s, Pyr.isi_str_l, Pyr.isi_str_t, Pyr.isi_str_d, Pyr.isi_int_n, Pyr.isi_int_b, Pyr.isi_int_i, Pyr.isi_int_s, Pyr.isi_int_l, Pyr.isi_int_t, Pyr.isi_int_d, Pyr.isi_bool_n, Pyr.isi_bool_b, Pyr.isi_bool_i, Pyr.isi_bool_s, Pyr.isi_bool_l, Pyr.isi_bool_t, Pyr.isi_bool_d, Pyr.isi_list_n, Pyr.isi_list_b, Pyr.isi_list_i, Pyr.isi_list_s, Pyr.isi_list_l, Pyr.isi_list_t, Pyr.isi_list_d, Pyr.isi_tuple_n, Pyr.isi_tuple_b, Pyr.isi_tuple_i, Pyr.isi_tuple_s, Pyr.isi_tuple_l, Pyr.isi_tuple_t, Pyr.isi_tuple_d, Pyr.isi_dict_n, Pyr.isi_dict_b, Pyr.isi_dict_i, Pyr.isi_dict_s, Pyr.isi_dict_l, Pyr.isi_dict_t, Pyr.isi_dict_d, Nat.reduceAdd, Int.cast_ofNat_Int, Int.natCast_zero, Int.natCast_one, Int.reduceEq, Int.reduceLT, Int.reduceLE, Int.reduceAdd, Int.reduceSub, Int.reduceMul, Int.reduceNeg, Int.reduceNe, Nat.zero_add, reduceIte, decide_eq_true_eq, beq_self_eq_true, eq_self, Bool.true_or, Bool.or_true, Bool.and_true, Bool.true_and, Bool.false_or, Bool.or_false, Bool.and_false, Bool.false_and, a44, h4]; try rfl) rfl
  obtain ⟨A, hA, eA⟩ := database_run S (ws ++ us) p50 m s1 s4 hW (by rw [List.length_append]; omega) (fun w hw => (List.mem_append.mp hw).elim (w3 w) (w5 w)) sw (by omega) hm
  -- what is deleted
  obtain ⟨Dl, subD, eD⟩ : ∃ Dl : List Ft, Dl.Sublist A ∧ (lComp [14] (Tg.nm 14) (iF r1D (eN (oneD lenD) (aC (eVar 6) Pyr.a0))) (tE boolD (Pyr.e2 eqD (Pyr.e2 modD (eN (oneD int2D) (aC (Pyr.e2 atD (eVar 1) (Pyr.e2 addD (eC (.int 13)) (eVar 14))) Pyr.a0)) (eC (.int 2))) (eC (.int 1)))) (Pyr.e2 atD (eVar 6) (eVar 14)))
      (purE [.val (.list (ns.map .int)), .val (.list (vs.map .int)), .val (.list (ps.map .str)), .val (.list (ws.map .str)), .val (.list (S.map tbD)), .val (.int (m : Int)), .val (.list (A.map ftD)), .emp, .emp, .emp, .emp, .emp, .emp, .emp, .emp, .emp]) = .ok (Dl.map ftD) := by
    have lA := hA.len
    have hr : r1D (.int (A.length : Int)) = .ok ((List.range' 0 A.length).map fun k : Nat => .int (k : Int)) := (r1D_nat (by show _ ≤ 100000; omega)).trans (congrArg Res.ok (upto_map _ 0))
    refine ⟨((List.range' 0 A.length).filter fun k => decide ((vs.getD (13 + k) 0).fmod 2 = 1)).map fun k => A.getD k ((⟨#[]⟩ : Str), []), ?_, ?_⟩
    · have := (List.filter_sublist (p := fun k => decide ((vs.getD (13 + k) 0).fmod 2 = 1)) (l := List.range' 0 A.length)).map fun k => A.getD k ((⟨#[]⟩ : Str), [])
      rw [range_at] at this
      exact this
    · rw [List.map_map]
      refine lComp_ok (ds := (List.range' 0 A.length).map fun k : Nat => .int (k : Int)) ?_ (by rw [List.length_map, List.length_range']; omega) ?_
      · refine iF_ok (x := .int (A.length : Int)) ?_ |>.trans hr
        simp -implicitDefEqProofs (disch := omega) only [Pyr.run_fSu, Pyr.run_pSu, Pyr.run_ownU, Pyr.RV.d, Pyr.run_flI, Pyr.run_flB, Pyr.run_flS, Pyr.run_flN, Pyr.sSeq, Pyr.sKill, Pyr.run_kill0, Pyr.run_killS, Pyr.sIf, Pyr.sSet, Pyr.sSetL, Pyr.sRet, Pyr.sRetL, Pyr.sRetN, Pyr.sRetO, Pyr.sDrop, Pyr.sApp, Pyr.sNext, Pyr.sFrz, Pyr.sSetT, Pyr.tgF, Pyr.setsF, Pyr.evP, Pyr.evL, Pyr.evT, Pyr.bare, Pyr.eC, Pyr.e1, Pyr.e2, Pyr.eN, Pyr.aC, Pyr.a0, Pyr.eIf, Pyr.eAnd, Pyr.eOr, Pyr.eNot, Pyr.eChain, Pyr.tE, Pyr.tNotR, Pyr.tAndR, Pyr.tOrR, Pyr.eCall, Pyr.lCall, Pyr.iF, Pyr.iF2, Pyr.lN, Pyr.lF, Pyr.eFs, Pyr.jC, Pyr.j0, Pyr.eIxV, Pyr.ownI, Pyr.lAdd, Pyr.sExt, Pyr.sPop, Pyr.trF, Pyr.trsF, Trs.len, Pyr.run_max2, Pyr.run_min2, Pyr.backD, Pyr.eSlice, Pyr.oNone, Pyr.oSome, Pyr.optI, Pyr.lSlice, Pyr.listD, eL, Pyr.eB, Pyr.oneD, Pyr.oneL, Pyr.itemsD, Pyr.outR, Pyr.ownD, Pyr.RV.d, Pyr.tupD, Pyr.run_mul, Pyr.run_mulS, Pyr.run_add, Pyr.run_sub, Pyr.run_addS, Pyr.run_mod, Pyr.run_fdiv, Pyr.run_lt, Pyr.run_le, Pyr.run_gt, Pyr.run_ge, Pyr.run_lenL, Pyr.run_lenT, Pyr.run_lenS, Pyr.run_int, Pyr.run_bool, Pyr.run_truB, Pyr.run_truL, Pyr.run_pur1, Pyr.run_frz1, Pyr.run_pSv, Pyr.run_pSo, Pyr.run_pSe, Pyr.run_fSv, Pyr.run_fSo, Pyr.run_fSe, Pyr.run_pur0, Pyr.run_frz0, Pyr.run_v0n, Pyr.run_v0b, Pyr.run_v0i, Pyr.run_v0s, Pyr.run_v0l, Pyr.run_v0t, Pyr.run_v0o, Pyr.run_vN, Pyr.run_vS, Pyr.run_bad, Pyr.run_exc, Pyr.run_map, Pyr.run_okL, List.length_cons, List.length_nil, Pyr.bind_ok, List.set_cons_zero, List.set_cons_succ, List.getElem?_cons_zero, List.getElem?_cons_succ, Pyr.eqD_int, Pyr.eqD_str, Pyr.neD_int, Pyr.neD_str, if_true, if_false, Bool.not_true, Bool.not_false, Bool.false_eq_true, decide_true, decide_false, Pyr.run_atT0, Pyr.run_atT1, Pyr.run_atT2, Pyr.run_atT3, Pyr.run_atT4, Pyr.run_atL0, Pyr.run_atL1, Pyr.run_atL2, Pyr.run_atL3, Pyr.run_atL4, Pyr.isi_str_n, Pyr.isi_str_b, Pyr.isi_str_i, Pyr.isi_str_s, Pyr.isi_str_l, Pyr.isi_str_t, Pyr.isi_str_d, Pyr.isi_int_n, Pyr.isi_int_b, Pyr.isi_int_i, Pyr.isi_int_s, Pyr.isi_int_l, Pyr.isi_int_t, Pyr.isi_int_d, Pyr.isi_bool_n, Pyr.isi_bool_b, Pyr.isi_bool_i, Pyr.isi_bool_s, Pyr.isi_bool_l, Pyr.isi_bool_t, Pyr.isi_bool_d, Pyr.isi_list_n, Pyr.isi_list_b, Pyr.isi_list_i, Pyr.isi_list_s, Pyr.isi_list_l, Pyr.isi_list_t, Pyr.isi_list_d, Pyr.isi_tuple_n, Pyr.isi_tuple_b, Pyr.isi_tuple_i, Pyr.isi_tuple_s, Pyr.isi_tuple_l, Pyr.isi_tuple_t, Pyr.isi_tuple_d, Pyr.isi_dict_n, Pyr.isi_dict_b, Pyr.isi_dict_i, Pyr.isi_dict_s, Pyr.isi_dict_l, Pyr.isi_dict_t, Pyr.isi_dict_d, Nat.reduceAdd, Int.cast_ofNat_Int, Int.natCast_zero, Int.natCast_one, Int.reduceEq, Int.reduceLT, Int.reduceLE, Int.reduceAdd, Int.reduceSub, Int.reduceMul, Int.reduceNeg, Int.reduceNe, Nat.zero_add, reduceIte, decide_eq_true_eq, beq_self_eq_true, eq_self, Bool.true_or, Bool.or_true, Bool.and_true, Bool.true_and, Bool.false_or, Bool.or_false, Bool.and_false, Bool.false_and, List.length_map]
      · refine compF_some (fun k : Nat => .int (k : Int)) _ (fun k => decide ((vs.getD (13 + k) 0).fmod 2 = 1)) _ fun k hk => ?_
        have hk := (List.mem_range'_1.mp hk).2
        have h1 : atD (.list (vs.map .int)) (.int (13 + (k : Int))) = .ok (.int (vs[13 + k]'(by omega))) := da (13 + k) (by omega)
        have h2 : atD (.list (A.map ftD)) (.int (k : Int)) = .ok (ftD (A[k]'(by omega))) := at_list (by rw [List.getElem?_map, List.getElem?_eq_getElem (by omega)]; rfl)
        refine ⟨_, rfl, ?_, fun _ => ?_⟩
        · rw [List.getD_eq_getElem?_getD, List.getElem?_eq_getElem (by omega), Option.getD_some]
          simp -implicitDefEqProofs (disch := omega) only [Pyr.run_fSu, Pyr.run_pSu, Pyr.run_ownU, Pyr.RV.d, Pyr.run_flI, Pyr.run_flB, Pyr.run_flS, Pyr.run_flN, Pyr.sSeq, Pyr.sKill, Pyr.run_kill0, Pyr.run_killS, Pyr.sIf, Pyr.sSet, Pyr.sSetL, Pyr.sRet, Pyr.sRetL, Pyr.sRetN, Pyr.sRetO, Pyr.sDrop, Pyr.sApp, Pyr.sNext, Pyr.sFrz, Pyr.sSetT, Pyr.tgF, Pyr.setsF, Pyr.evP, Pyr.evL, Pyr.evT, Pyr.bare, Pyr.eC, Pyr.e1, Pyr.e2, Pyr.eN, Pyr.aC, Pyr.a0, Pyr.eIf, Pyr.eAnd, Pyr.eOr, Pyr.eNot, Pyr.eChain, Pyr.tE, Pyr.tNotR, Pyr.tAndR, Pyr.tOrR, Pyr.eCall, Pyr.lCall, Pyr.iF, Pyr.iF2, Pyr.lN, Pyr.lF, Pyr.eFs, Pyr.jC, Pyr.j0, Pyr.eIxV, Pyr.ownI, Pyr.lAdd, Pyr.sExt, Pyr.sPop, Pyr.trF, Pyr.trsF, Trs.len, Pyr.run_max2, Pyr.run_min2, Pyr.backD, Pyr.eSlice, Pyr.oNone, Pyr.oSome, Pyr.optI, Pyr.lSlice, Pyr.listD, eL, Pyr.eB, Pyr.oneD, Pyr.oneL, Pyr.itemsD, Pyr.outR, Pyr.ownD, Pyr.RV.d, Pyr.tupD, Pyr.run_mul, Pyr.run_mulS, Pyr.run_add, Pyr.run_sub, Pyr.run_addS, Pyr.run_mod, Pyr.run_fdiv, Pyr.run_lt, Pyr.run_le, Pyr.run_gt, Pyr.run_ge, Pyr.run_lenL, Pyr.run_lenT, Pyr.run_lenS, Pyr.run_int, Pyr.run_bool, Pyr.run_truB, Pyr.run_truL, Pyr.run_pur1, Pyr.run_frz1, Pyr.run_pSv, Pyr.run_pSo, Pyr.run_pSe, Pyr.run_fSv, Pyr.run_fSo, Pyr.run_fSe, Pyr.run_pur0, Pyr.run_frz0, Pyr.run_v0n, Pyr.run_v0b, Pyr.run_v0i, Pyr.run_v0s, Pyr.run_v0l, Pyr.run_v0t, Pyr.run_v0o, Pyr.run_vN, Pyr.run_vS, Pyr.run_bad, Pyr.run_exc, Pyr.run_map, Pyr.run_okL, List.length_cons, List.length_nil, Pyr.bind_ok, List.set_cons_zero, List.set_cons_succ, List.getElem?_cons_zero, List.getElem?_cons_succ, Pyr.eqD_int, Pyr.eqD_str, Pyr.neD_int, Pyr.neD_str, if_true, if_false, Bool.not_true, Bool.not_false, Bool.false_eq_true, decide_true, decide_false, Pyr.run_atT0, Pyr.run_atT1, Pyr.run_atT2, Pyr.run_atT3, Pyr.run_atT4, Pyr.run_atL0, Pyr.run_atL1, Pyr.run_atL2, Pyr.run_atL3, Pyr.run_atL4, Pyr.isi_str_n, Pyr.isi_str_b, Pyr.isi_str_i, Pyr.isi_str_s, Pyr.isi_str_l, Pyr.isi_str_t, Pyr.isi_str_d, Pyr.isi_int_n, Pyr.isi_int_b, Pyr.isi_int_i, Pyr.isi_int_s, Pyr.isi_int_l, Pyr.isi_int_t, Pyr.isi_int_d, Pyr.isi_bool_n, Pyr.isi_bool_b, Pyr.isi_bool_i, Pyr.isi_bool_s, Pyr.isi_bool_l, Pyr.isi_bool_t, Pyr.isi_bool_d, Pyr.isi_list_n, Pyr.isi_list_b, Pyr.isi_list_i, Pyr.isi_list_s, Pyr.isi_list_l, Pyr.isi_list_t, Pyr.isi_list_d, Pyr.isi_tuple_n, Pyr.isi_tuple_b, Pyr.isi_tuple_i, Pyr.isi_tuple_s, Pyr.isi_tuple_l, Pyr.isi_tuple_t, Pyr.isi_tuple_d, Pyr.isi_dict_n, Pyr.isi_dict_b, Pyr.isi_dict_i, Pyr.isi_dict_s, Pyr.isi_dict_l, Pyr.isi_dict_t, Pyr.isi_dict_d, Nat.reduceAdd, Int.cast_ofNat_Int, Int.natCast_zero, Int.natCast_one, Int.reduceEq, Int.reduceLT, Int.reduceLE, Int.reduceAdd, Int.reduceSub, Int.reduceMul, Int.reduceNeg, Int.reduceNe, Nat.zero_add, reduceIte, decide_eq_true_eq, beq_self_eq_true, eq_self, Bool.true_or, Bool.or_true, Bool.and_true, Bool.true_and, Bool.false_or, Bool.or_false, Bool.and_false, Bool.false_and, wipeE, h1]
          try rfl
        · show _ = Res.ok (ftD (A.getD k _))
          rw [List.getD_eq_getElem?_getD, List.getElem?_eq_getElem (by omega), Option.getD_some]
          simp -implicitDefEqProofs (disch := omega) only [Pyr.run_fSu, Pyr.run_pSu, Pyr.run_ownU, Pyr.RV.d, Pyr.run_flI, Pyr.run_flB, Pyr.run_flS, Pyr.run_flN, Pyr.sSeq, Pyr.sKill, Pyr.run_kill0, Pyr.run_killS, Pyr.sIf, Pyr.sSet, Pyr.sSetL, Pyr.sRet, Pyr.sRetL, Pyr.sRetN, Pyr.sRetO, Pyr.sDrop, Pyr.sApp, Pyr.sNext, Pyr.sFrz, Pyr.sSetT, Pyr.tgF, Pyr.setsF, Pyr.evP, Pyr.evL, Pyr.evT, Pyr.bare, Pyr.eC, Pyr.e1, Pyr.e2, Pyr.eN, Pyr.aC, Pyr.a0, Pyr.eIf, Pyr.eAnd, Pyr.eOr, Pyr.eNot, Pyr.eChain, Pyr.tE, Pyr.tNotR, Pyr.tAndR, Pyr.tOrR, Pyr.eCall, Pyr.lCall, Pyr.iF, Pyr.iF2, Pyr.lN, Pyr.lF, Pyr.eFs, Pyr.jC, Pyr.j0, Pyr.eIxV, Pyr.ownI, Pyr.lAdd, Pyr.sExt, Pyr.sPop, Pyr.trF, Pyr.trsF, Trs.len, Pyr.run_max2, Pyr.run_min2, Pyr.backD, Pyr.eSlice, Pyr.oNone, Pyr.oSome, Pyr.optI, Pyr.lSlice, Pyr.listD, eL, Pyr.eB, Pyr.oneD, Pyr.oneL, Pyr.itemsD, Pyr.outR, Pyr.ownD, Pyr.RV.d, Pyr.tupD, Pyr.run_mul, Pyr.run_mulS, Pyr.run_add, Pyr.run_sub, Pyr.run_addS, Pyr.run_mod, Pyr.run_fdiv, Pyr.run_lt, Pyr.run_le, Pyr.run_gt, Pyr.run_ge, Pyr.run_lenL, Pyr.run_lenT, Pyr.run_lenS, Pyr.run_int, Pyr.run_bool, Pyr.run_truB, Pyr.run_truL, Pyr.run_pur1, Pyr.run_frz1, Pyr.run_pSv, Pyr.run_pSo, Pyr.run_pSe, Pyr.run_fSv, Pyr.run_fSo, Pyr.run_fSe, Pyr.run_pur0, Pyr.run_frz0, Pyr.run_v0n, Pyr.run_v0b, Pyr.run_v0i, Pyr.run_v0s, Pyr.run_v0l, Pyr.run_v0t, Pyr.run_v0o, Pyr.run_vN, Pyr.run_vS, Pyr.run_bad, Pyr.run_exc, Pyr.run_map, Pyr.run_okL, List.length_cons, List.length_nil, Pyr.bind_ok, List.set_cons_zero, List.set_cons_succ, List.getElem?_cons_zero, List.getElem?_cons_succ, Pyr.eqD_int, Pyr.eqD_str, Pyr.neD_int, Pyr.neD_str, if_true, if_false, Bool.not_true, Bool.not_false, Bool.false_eq_true, decide_true, decide_false, Pyr.run_atT0, Pyr.run_atT1, Pyr.run_atT2, Pyr.run_atT3, Pyr.run_atT4, Pyr.run_atL0, Pyr.run_atL1, Pyr.run_atL2, Pyr.run_atL3, Pyr.run_atL4, Pyr.isi_str_n, Pyr.isi_str_b, Pyr.isi_str_i, Pyr.isi_str_s, Pyr.isi_str_l, Pyr.isi_str_t, Pyr.isi_str_d, Pyr.isi_int_n, Pyr.isi_int_b, Pyr.isi_int_i, Pyr.isi_int_s, Pyr.isi_int_l, Pyr.isi_int_t, Pyr.isi_int_d, Pyr.isi_bool_n, Pyr.isi_bool_b, Pyr.isi_bool_i, Pyr.isi_bool_s, Pyr.isi_bool_l, Pyr.isi_bool_t, Pyr.isi_bool_d, Pyr.isi_list_n, Pyr.isi_list_b, Pyr.isi_list_i, Pyr.isi_list_s, Pyr.isi_list_l, Pyr.isi_list_t, Pyr.isi_list_d, Pyr.isi_tuple_n, Pyr.isi_tuple_b, Pyr.isi_tuple_i, Pyr.isi_tuple_s, Pyr.isi_tuple_l, Pyr.isi_tuple_t, Pyr.isi_tuple_d, Pyr.isi_dict_n, Pyr.isi_dict_b, Pyr.isi_dict_i, Pyr.isi_dict_s, Pyr.isi_dict_l, Pyr.isi_dict_t, Pyr.isi_dict_d, Nat.reduceAdd, Int.cast_ofNat_Int, Int.natCast_zero, Int.natCast_one, Int.reduceEq, Int.reduceLT, Int.reduceLE, Int.reduceAdd, Int.reduceSub, Int.reduceMul, Int.reduceNeg, Int.reduceNe, Nat.zero_add, reduceIte, decide_eq_true_eq, beq_self_eq_true, eq_self, Bool.true_or, Bool.or_true, Bool.and_true, Bool.true_and, Bool.false_or, Bool.or_false, Bool.and_false, Bool.false_and, wipeE, h2]
  have hD : Wor 24 S Dl := hA.sub subD
  -- what else is there
  obtain ⟨gs, g1, g2, g3⟩ := facts_run S ws p140 m6 s1 s4 (by omega) sw (by omega) (by omega)
  have g1 : K06.m__law_facts [.list (S.map tbD), .list (ws.map .str), .list (p140.map .int), .int (m6 : Int)] = .ok (.own (gs.map ftD)) := g1
  have insG : InS S gs := fun f hf => by
    obtain ⟨⟨t, h1, h2, h3⟩, h4⟩ := g3 f hf
    exact ⟨⟨h2 ▸ hW t h1, fun w hw => w3 w (h4 w hw)⟩, t, h1, h2⟩
  have eB : K06.m__law_ascending [.list (S.map tbD), .list (gs.map ftD)] = .ok (.own ((ascF S gs).map ftD)) := asc_run S gs (by omega) (by omega) insG
  have hB : Wor 5 S (ascF S gs) := ⟨inS_sub insG fun f hf => asc_mem.mp hf, asc_sorted S gs, asc_nodup S gs, Nat.le_trans (asc_le S gs) (by omega), fun f hf => by
    obtain ⟨⟨t, h1, h2, h3⟩, h4⟩ := g3 f (asc_mem.mp hf)
    rw [h3]
    exact (sw t h1).2⟩
  generalize ascF S gs = B at eB hB
  have hI : Wor 5 S (minusF B A) := hB.sub (minus_sub B A)
  have lA := hA.len
  have lB := hB.len
  have lD := hD.len
  have lI := hI.len
  have minus_comp : ∀ (X Y : List Ft) (i j : Nat) (ρ : En), LfOk X → LfOk Y → X.length ≤ 100 → (iF walkD (eVar i)) ρ = .ok (X.map ftD) → (∀ d, (eVar j) ((wipeE ρ [15]).set 15 (some d)) = .ok (.list (Y.map ftD))) → (∀ d, isLo d = false → (eVar 15) ((wipeE ρ [15]).set 15 (some d)) = .ok d) →
      (lComp [15] (Tg.nm 15) (iF walkD (eVar i)) (tE boolD (Pyr.e2 notInD (eVar 15) (eVar j))) (eVar 15)) ρ = .ok ((minusF X Y).map ftD) := fun X Y i j ρ hX hY hl h1 h2 h3 => by
    refine lComp_ok h1 (by rw [List.length_map]; omega) ?_
    refine compF_some ftD ftD (fun f => !decide (f ∈ Y)) X fun f hf => ?_
    refine ⟨(wipeE ρ [15]).set 15 (some (ftD f)), ?_, ?_, fun _ => h3 _ rfl⟩
    · rfl
    · unfold tE Pyr.e2
      rw [h3 _ rfl, h2]
      show ((notInD (ftD f) (.list (Y.map ftD))).bind boolD) = _
      rw [ftE.notInD hY (hX f hf)]
      rfl
  have cI := minus_comp B A 8 6
  -- the law
  unfold m_law
  rw [defM_eq (np := 1) rfl]
  show outR (F_law [.val (.list (ns.map .int)), .emp, .emp, .emp, .emp, .emp, .emp, .emp, .emp, .emp, .emp, .emp, .emp, .emp, .emp, .emp]) = _
  refine Pyr.seqO (by simp -implicitDefEqProofs (disch := omega) only [Pyr.run_fSu, Pyr.run_pSu, Pyr.run_ownU, Pyr.RV.d, Pyr.run_flI, Pyr.run_flB, Pyr.run_flS, Pyr.run_flN, Pyr.sSeq, Pyr.sKill, Pyr.run_kill0, Pyr.run_killS, Pyr.sIf, Pyr.sSet, Pyr.sSetL, Pyr.sRet, Pyr.sRetL, Pyr.sRetN, Pyr.sRetO, Pyr.sDrop, Pyr.sApp, Pyr.sNext, Pyr.sFrz, Pyr.sSetT, Pyr.tgF, Pyr.setsF, Pyr.evP, Pyr.evL, Pyr.evT, Pyr.bare, Pyr.eC, Pyr.e1, Pyr.e2, Pyr.eN, Pyr.aC, Pyr.a0, Pyr.eIf, Pyr.eAnd, Pyr.eOr, Pyr.eNot, Pyr.eChain, Pyr.tE, Pyr.tNotR, Pyr.tAndR, Pyr.tOrR, Pyr.eCall, Pyr.lCall, Pyr.iF, Pyr.iF2, Pyr.lN, Pyr.lF, Pyr.eFs, Pyr.jC, Pyr.j0, Pyr.eIxV, Pyr.ownI, Pyr.lAdd, Pyr.sExt, Pyr.sPop, Pyr.trF, Pyr.trsF, Trs.len, Pyr.run_max2, Pyr.run_min2, Pyr.backD, Pyr.eSlice, Pyr.oNone, Pyr.oSome, Pyr.optI, Pyr.lSlice, Pyr.listD, eL, Pyr.eB, Pyr.oneD, Pyr.oneL, Pyr.itemsD, Pyr.outR, Pyr.ownD, Pyr.RV.d, Pyr.tupD, Pyr.run_mul, Pyr.run_mulS, Pyr.run_add, Pyr.run_sub, Pyr.run_addS, Pyr.run_mod, Pyr.run_fdiv, Pyr.run_lt, Pyr.run_le, Pyr.run_gt, Pyr.run_ge, Pyr.run_lenL, Pyr.run_lenT, Pyr.run_lenS, Pyr.run_int, Pyr.run_bool, Pyr.run_truB, Pyr.run_truL, Pyr.run_pur1, Pyr.run_frz1, Pyr.run_pSv, Pyr.run_pSo, Pyr.run_pSe, Pyr.run_fSv, Pyr.run_fSo, Pyr.run_fSe, Pyr.run_pur0, Pyr.run_frz0, Pyr.run_v0n, Pyr.run_v0b, Pyr.run_v0i, Pyr.run_v0s, Pyr.run_v0l, Pyr.run_v0t, Pyr.run_v0o, Pyr.run_vN, Pyr.run_vS, Pyr.run_bad, Pyr.run_exc, Pyr.run_map, Pyr.run_okL, List.length_cons, List.length_nil, Pyr.bind_ok, List.set_cons_zero, List.set_cons_succ, List.getElem?_cons_zero, List.getElem?_cons_succ, Pyr.eqD_int, Pyr.eqD_str, Pyr.neD_int, Pyr.neD_str, if_true, if_false, Bool.not_true, Bool.not_false, Bool.false_eq_true, decide_true, decide_false, Pyr.run_atT0, Pyr.run_atT1, Pyr.run_atT2, Pyr.run_atT3, Pyr.run_atT4, Pyr.run_atL0, Pyr.run_atL1, Pyr.run_atL2, Pyr.run_atL3, Pyr.run_atL4, Pyr.isi_str_n, Pyr.isi_str_b, Pyr.isi_str_i, Pyr.isi_str_s, Pyr.isi_str_l, Pyr.isi_str_t, Pyr.isi_str_d, Pyr.isi_int_n, Pyr.isi_int_b, Pyr.isi_int_i, Pyr.isi_int_s, Pyr.isi_int_l, Pyr.isi_int_t, Pyr.isi_int_d, Pyr.isi_bool_n, Pyr.isi_bool_b, Pyr.isi_bool_i, Pyr.isi_bool_s, Pyr.isi_bool_l, Pyr.isi_bool_t, Pyr.isi_bool_d, Pyr.isi_list_n, Pyr.isi_list_b, Pyr.isi_list_i, Pyr.isi_list_s, Pyr.isi_list_l, Pyr.isi_list_t, Pyr.isi_list_d, Pyr.isi_tuple_n, Pyr.isi_tuple_b, Pyr.isi_tuple_i, Pyr.isi_tuple_s, Pyr.isi_tuple_l, Pyr.isi_tuple_t, Pyr.isi_tuple_d, Pyr.isi_dict_n, Pyr.isi_dict_b, Pyr.isi_dict_i, Pyr.isi_dict_s, Pyr.isi_dict_l, Pyr.isi_dict_t, Pyr.isi_dict_d, Nat.reduceAdd, Int.cast_ofNat_Int, Int.natCast_zero, Int.natCast_one, Int.reduceEq, Int.reduceLT, Int.reduceLE, Int.reduceAdd, Int.reduceSub, Int.reduceMul, Int.reduceNeg, Int.reduceNe, Nat.zero_add, reduceIte, decide_eq_true_eq, beq_self_eq_true, eq_self, Bool.true_or, Bool.or_true, Bool.and_true, Bool.true_and, Bool.false_or, Bool.or_false, Bool.and_false, Bool.false_and, e1]; try rfl) ?_
  refine Pyr.seqO (by simp -implicitDefEqProofs (disch := omega) only [Pyr.run_fSu, Pyr.run_pSu, Pyr.run_ownU, Pyr.RV.d, Pyr.run_flI, Pyr.run_flB, Pyr.run_flS, Pyr.run_flN, Pyr.sSeq, Pyr.sKill, Pyr.run_kill0, Pyr.run_killS, Pyr.sIf, Pyr.sSet, Pyr.sSetL, Pyr.sRet, Pyr.sRetL, Pyr.sRetN, Pyr.sRetO, Pyr.sDrop, Pyr.sApp, Pyr.sNext, Pyr.sFrz, Pyr.sSetT, Pyr.tgF, Pyr.setsF, Pyr.evP, Pyr.evL, Pyr.evT, Pyr.bare, Pyr.eC, Pyr.e1, Pyr.e2, Pyr.eN, Pyr.aC, Pyr.a0, Pyr.eIf, Pyr.eAnd, Pyr.eOr, Pyr.eNot, Pyr.eChain, Pyr.tE, Pyr.tNotR, Pyr.tAndR, Pyr.tOrR, Pyr.eCall, Pyr.lCall, Pyr.iF, Pyr.iF2, Pyr.lN, Pyr.lF, Pyr.eFs, Pyr.jC, Pyr.j0, Pyr.eIxV, Pyr.ownI, Pyr.lAdd, Pyr.sExt, Pyr.sPop, Pyr.trF, Pyr.trsF, Trs.len, Pyr.run_max2, Pyr.run_min2, Pyr.backD, Pyr.eSlice, Pyr.oNone, Pyr.oSome, Pyr.optI, Pyr.lSlice, Pyr.listD, eL, Pyr.eB, Pyr.oneD, Pyr.oneL, Pyr.itemsD, Pyr.outR, Pyr.ownD, Pyr.RV.d, Pyr.tupD, Pyr.run_mul, Pyr.run_mulS, Pyr.run_add, Pyr.run_sub, Pyr.run_addS, Pyr.run_mod, Pyr.run_fdiv, Pyr.run_lt, Pyr.run_le, Pyr.run_gt, Pyr.run_ge, Pyr.run_lenL, Pyr.run_lenT, Pyr.run_lenS, Pyr.run_int, Pyr.run_bool, Pyr.run_truB, Pyr.run_truL, Pyr.run_pur1, Pyr.run_frz1, Pyr.run_pSv, Pyr.run_pSo, Pyr.run_pSe, Pyr.run_fSv, Pyr.run_fSo, Pyr.run_fSe, Pyr.run_pur0, Pyr.run_frz0, Pyr.run_v0n, Pyr.run_v0b, Pyr.run_v0i, Pyr.run_v0s, Pyr.run_v0l, Pyr.run_v0t, Pyr.run_v0o, Pyr.run_vN, Pyr.run_vS, Pyr.run_bad, Pyr.run_exc, Pyr.run_map, Pyr.run_okL, List.length_cons, List.length_nil, Pyr.bind_ok, List.set_cons_zero, List.set_cons_succ, List.getElem?_cons_zero, List.getElem?_cons_succ, Pyr.eqD_int, Pyr.eqD_str, Pyr.neD_int, Pyr.neD_str, if_true, if_false, Bool.not_true, Bool.not_false, Bool.false_eq_true, decide_true, decide_false, Pyr.run_atT0, Pyr.run_atT1, Pyr.run_atT2, Pyr.run_atT3, Pyr.run_atT4, Pyr.run_atL0, Pyr.run_atL1, Pyr.run_atL2, Pyr.run_atL3, Pyr.run_atL4, Pyr.isi_str_n, Pyr.isi_str_b, Pyr.isi_str_i, Pyr.isi_str_s, Pyr.isi_str_l, Pyr.isi_str_t, Pyr.isi_str_d, Pyr.isi_int_n, Pyr.isi_int_b, Pyr.isi_int_i, Pyr.isi_int_s, Pyr.isi_int_l, Pyr.isi_int_t, Pyr.isi_int_d, Pyr.isi_bool_n, Pyr.isi_bool_b, Pyr.isi_bool_i, Pyr.isi_bool_s, Pyr.isi_bool_l, Pyr.isi_bool_t, Pyr.isi_bool_d, Pyr.isi_list_n, Pyr.isi_list_b, Pyr.isi_list_i, Pyr.isi_list_s, Pyr.isi_list_l, Pyr.isi_list_t, Pyr.isi_list_d, Pyr.isi_tuple_n, Pyr.isi_tuple_b, Pyr.isi_tuple_i, Pyr.isi_tuple_s, Pyr.isi_tuple_l, Pyr.isi_tuple_t, Pyr.isi_tuple_d, Pyr.isi_dict_n, Pyr.isi_dict_b, Pyr.isi_dict_i, Pyr.isi_dict_s, Pyr.isi_dict_l, Pyr.isi_dict_t, Pyr.isi_dict_d, Nat.reduceAdd, Int.cast_ofNat_Int, Int.natCast_zero, Int.natCast_one, Int.reduceEq, Int.reduceLT, Int.reduceLE, Int.reduceAdd, Int.reduceSub, Int.reduceMul, Int.reduceNeg, Int.reduceNe, Nat.zero_add, reduceIte, decide_eq_true_eq, beq_self_eq_true, eq_self, Bool.true_or, Bool.or_true, Bool.and_true, Bool.true_and, Bool.false_or, Bool.or_false, Bool.and_false, Bool.false_and, a0, a1, e2]; try rfl) ?_
  refine Pyr.seqO (by simp -implicitDefEqProofs (disch := omega) only [Pyr.run_fSu, Pyr.run_pSu, Pyr.run_ownU, Pyr.RV.d, Pyr.run_flI, Pyr.run_flB, Pyr.run_flS, Pyr.run_flN, Pyr.sSeq, Pyr.sKill, Pyr.run_kill0, Pyr.run_killS, Pyr.sIf, Pyr.sSet, Pyr.sSetL, Pyr.sRet, Pyr.sRetL, Pyr.sRetN, Pyr.sRetO, Pyr.sDrop, Pyr.sApp, Pyr.sNext, Pyr.sFrz, Pyr.sSetT, Pyr.tgF, Pyr.setsF, Pyr.evP, Pyr.evL, Pyr.evT, Pyr.bare, Pyr.eC, Pyr.e1, Pyr.e2, Pyr.eN, Pyr.aC, Pyr.a0, Pyr.eIf, Pyr.eAnd, Pyr.eOr, Pyr.eNot, Pyr.eChain, Pyr.tE, Pyr.tNotR, Pyr.tAndR, Pyr.tOrR, Pyr.eCall, Pyr.lCall, Pyr.iF, Pyr.iF2, Pyr.lN, Pyr.lF, Pyr.eFs, Pyr.jC, Pyr.j0, Pyr.eIxV, Pyr.ownI, Pyr.lAdd, Pyr.sExt, Pyr.sPop, Pyr.trF, Pyr.trsF, Trs.len, Pyr.run_max2, Pyr.run_min2, Pyr.backD, Pyr.eSlice, Pyr.oNone, Pyr.oSome, Pyr.optI, Pyr.lSlice, Pyr.listD, eL, Pyr.eB, Pyr.oneD, Pyr.oneL, Pyr.itemsD, Pyr.outR, Pyr.ownD, Pyr.RV.d, Pyr.tupD, Pyr.run_mul, Pyr.run_mulS, Pyr.run_add, Pyr.run_sub, Pyr.run_addS, Pyr.run_mod, Pyr.run_fdiv, Pyr.run_lt, Pyr.run_le, Pyr.run_gt, Pyr.run_ge, Pyr.run_lenL, Pyr.run_lenT, Pyr.run_lenS, Pyr.run_int, Pyr.run_bool, Pyr.run_truB, Pyr.run_truL, Pyr.run_pur1, Pyr.run_frz1, Pyr.run_pSv, Pyr.run_pSo, Pyr.run_pSe, Pyr.run_fSv, Pyr.run_fSo, Pyr.run_fSe, Pyr.run_pur0, Pyr.run_frz0, Pyr.run_v0n, Pyr.run_v0b, Pyr.run_v0i, Pyr.run_v0s, Pyr.run_v0l, Pyr.run_v0t, Pyr.run_v0o, Pyr.run_vN, Pyr.run_vS, Pyr.run_bad, Pyr.run_exc, Pyr.run_map, Pyr.run_okL, List.length_cons, List.length_nil, Pyr.bind_ok, List.set_cons_zero, List.set_cons_succ, List.getElem?_cons_zero, List.getElem?_cons_succ, Pyr.eqD_int, Pyr.eqD_str, Pyr.neD_int, Pyr.neD_str, if_true, if_false, Bool.not_true, Bool.not_false, Bool.false_eq_true, decide_true, decide_false, Pyr.run_atT0, Pyr.run_atT1, Pyr.run_atT2, Pyr.run_atT3, Pyr.run_atT4, Pyr.run_atL0, Pyr.run_atL1, Pyr.run_atL2, Pyr.run_atL3, Pyr.run_atL4, Pyr.isi_str_n, Pyr.isi_str_b, Pyr.isi_str_i, Pyr.isi_str_s, Pyr.isi_str_l, Pyr.isi_str_t, Pyr.isi_str_d, Pyr.isi_int_n, Pyr.isi_int_b, Pyr.isi_int_i, Pyr.isi_int_s, Pyr.isi_int_l, Pyr.isi_int_t, Pyr.isi_int_d, Pyr.isi_bool_n, Pyr.isi_bool_b, Pyr.isi_bool_i, Pyr.isi_bool_s, Pyr.isi_bool_l, Pyr.isi_bool_t, Pyr.isi_bool_d, Pyr.isi_list_n, Pyr.isi_list_b, Pyr.isi_list_i, Pyr.isi_list_s, Pyr.isi_list_l, Pyr.isi_list_t, Pyr.isi_list_d, Pyr.isi_tuple_n, Pyr.isi_tuple_b, Pyr.isi_tuple_i, Pyr.isi_tuple_s, Pyr.isi_tuple_l, Pyr.isi_tuple_t, Pyr.isi_tuple_d, Pyr.isi_dict_n, Pyr.isi_dict_b, Pyr.isi_dict_i, Pyr.isi_dict_s, Pyr.isi_dict_l, Pyr.isi_dict_t, Pyr.isi_dict_d, Nat.reduceAdd, Int.cast_ofNat_Int, Int.natCast_zero, Int.natCast_one, Int.reduceEq, Int.reduceLT, Int.reduceLE, Int.reduceAdd, Int.reduceSub, Int.reduceMul, Int.reduceNeg, Int.reduceNe, Nat.zero_add, reduceIte, decide_eq_true_eq, beq_self_eq_true, eq_self, Bool.true_or, Bool.or_true, Bool.and_true, Bool.true_and, Bool.false_or, Bool.or_false, Bool.and_false, Bool.false_and, a2, a3, e3]; try rfl) ?_
  refine Pyr.seqO (by simp -implicitDefEqProofs (disch := omega) only [Pyr.run_fSu, Pyr.run_pSu, Pyr.run_ownU, Pyr.RV.d, Pyr.run_flI, Pyr.run_flB, Pyr.run_flS, Pyr.run_flN, Pyr.sSeq, Pyr.sKill, Pyr.run_kill0, Pyr.run_killS, Pyr.sIf, Pyr.sSet, Pyr.sSetL, Pyr.sRet, Pyr.sRetL, Pyr.sRetN, Pyr.sRetO, Pyr.sDrop, Pyr.sApp, Pyr.sNext, Pyr.sFrz, Pyr.sSetT, Pyr.tgF, Pyr.setsF, Pyr.evP, Pyr.evL, Pyr.evT, Pyr.bare, Pyr.eC, Pyr.e1, Pyr.e2, Pyr.eN, Pyr.aC, Pyr.a0, Pyr.eIf, Pyr.eAnd, Pyr.eOr, Pyr.eNot, Pyr.eChain, Pyr.tE, Pyr.tNotR, Pyr.tAndR, Pyr.tOrR, Pyr.eCall, Pyr.lCall, Pyr.iF, Pyr.iF2, Pyr.lN, Pyr.lF, Pyr.eFs, Pyr.jC, Pyr.j0, Pyr.eIxV, Pyr.ownI, Pyr.lAdd, Pyr.sExt, Pyr.sPop, Pyr.trF, Pyr.trsF, Trs.len, Pyr.run_max2, Pyr.run_min2, Pyr.backD, Pyr.eSlice, Pyr.oNone, Pyr.oSome, Pyr.optI, Pyr.lSlice, Pyr.listD, eL, Pyr.eB, Pyr.oneD, Pyr.oneL, Pyr.itemsD, Pyr.outR, Pyr.ownD, Pyr.RV.d, Pyr.tupD, Pyr.run_mul, Pyr.run_mulS, Pyr.run_add, Pyr.run_sub, Pyr.run_addS, Pyr.run_mod, Pyr.run_fdiv, Pyr.run_lt, Pyr.run_le, Pyr.run_gt, Pyr.run_ge, Pyr.run_lenL, Pyr.run_lenT, Pyr.run_lenS, Pyr.run_int, Pyr.run_bool, Pyr.run_truB, Pyr.run_truL, Pyr.run_pur1, Pyr.run_frz1, Pyr.run_pSv, Pyr.run_pSo, Pyr.run_pSe, Pyr.run_fSv, Pyr.run_fSo, Pyr.run_fSe, Pyr.run_pur0, Pyr.run_frz0, Pyr.run_v0n, Pyr.run_v0b, Pyr.run_v0i, Pyr.run_v0s, Pyr.run_v0l, Pyr.run_v0t, Pyr.run_v0o, Pyr.run_vN, Pyr.run_vS, Pyr.run_bad, Pyr.run_exc, Pyr.run_map, Pyr.run_okL, List.length_cons, List.length_nil, Pyr.bind_ok, List.set_cons_zero, List.set_cons_succ, List.getElem?_cons_zero, List.getElem?_cons_succ, Pyr.eqD_int, Pyr.eqD_str, Pyr.neD_int, Pyr.neD_str, if_true, if_false, Bool.not_true, Bool.not_false, Bool.false_eq_true, decide_true, decide_false, Pyr.run_atT0, Pyr.run_atT1, Pyr.run_atT2, Pyr.run_atT3, Pyr.run_atT4, Pyr.run_atL0, Pyr.run_atL1, Pyr.run_atL2, Pyr.run_atL3, Pyr.run_atL4, Pyr.isi_str_n, Pyr.isi_str_b, Pyr.isi_str_i, Pyr.isi_str_s, Pyr.isi_str_l, Pyr.isi_str_t, Pyr.isi_str_d, Pyr.isi_int_n, Pyr.isi_int_b, Pyr.isi_int_i, Pyr.isi_int_s, Pyr.isi_int_l, Pyr.isi_int_t, Pyr.isi_int_d, Pyr.isi_bool_n, Pyr.isi_bool_b, Pyr.isi_bool_i, Pyr.isi_bool_s, Pyr.isi_bool_l, Pyr.isi_bool_t, Pyr.isi_bool_d, Pyr.isi_list_n, Pyr.isi_list_b, Pyr.isi_list_i, Pyr.isi_list_s, Pyr.isi_list_l, Pyr.isi_list_t, Pyr.isi_list_d, Pyr.isi_tuple_n, Pyr.isi_tuple_b, Pyr.isi_tuple_i, Pyr.isi_tuple_s, Pyr.isi_tuple_l, Pyr.isi_tuple_t, Pyr.isi_tuple_d, Pyr.isi_dict_n, Pyr.isi_dict_b, Pyr.isi_dict_i, Pyr.isi_dict_s, Pyr.isi_dict_l, Pyr.isi_dict_t, Pyr.isi_dict_d, Nat.reduceAdd, Int.cast_ofNat_Int, Int.natCast_zero, Int.natCast_one, Int.reduceEq, Int.reduceLT, Int.reduceLE, Int.reduceAdd, Int.reduceSub, Int.reduceMul, Int.reduceNeg, Int.reduceNe, Nat.zero_add, reduceIte, decide_eq_true_eq, beq_self_eq_true, eq_self, Bool.true_or, Bool.or_true, Bool.and_true, Bool.true_and, Bool.false_or, Bool.or_false, Bool.and_false, Bool.false_and, optI, c4, e4]; try rfl) ?_
  refine Pyr.seqO (by simp -implicitDefEqProofs (disch := omega) only [Pyr.run_fSu, Pyr.run_pSu, Pyr.run_ownU, Pyr.RV.d, Pyr.run_flI, Pyr.run_flB, Pyr.run_flS, Pyr.run_flN, Pyr.sSeq, Pyr.sKill, Pyr.run_kill0, Pyr.run_killS, Pyr.sIf, Pyr.sSet, Pyr.sSetL, Pyr.sRet, Pyr.sRetL, Pyr.sRetN, Pyr.sRetO, Pyr.sDrop, Pyr.sApp, Pyr.sNext, Pyr.sFrz, Pyr.sSetT, Pyr.tgF, Pyr.setsF, Pyr.evP, Pyr.evL, Pyr.evT, Pyr.bare, Pyr.eC, Pyr.e1, Pyr.e2, Pyr.eN, Pyr.aC, Pyr.a0, Pyr.eIf, Pyr.eAnd, Pyr.eOr, Pyr.eNot, Pyr.eChain, Pyr.tE, Pyr.tNotR, Pyr.tAndR, Pyr.tOrR, Pyr.eCall, Pyr.lCall, Pyr.iF, Pyr.iF2, Pyr.lN, Pyr.lF, Pyr.eFs, Pyr.jC, Pyr.j0, Pyr.eIxV, Pyr.ownI, Pyr.lAdd, Pyr.sExt, Pyr.sPop, Pyr.trF, Pyr.trsF, Trs.len, Pyr.run_max2, Pyr.run_min2, Pyr.backD, Pyr.eSlice, Pyr.oNone, Pyr.oSome, Pyr.optI, Pyr.lSlice, Pyr.listD, eL, Pyr.eB, Pyr.oneD, Pyr.oneL, Pyr.itemsD, Pyr.outR, Pyr.ownD, Pyr.RV.d, Pyr.tupD, Pyr.run_mul, Pyr.run_mulS, Pyr.run_add, Pyr.run_sub, Pyr.run_addS, Pyr.run_mod, Pyr.run_fdiv, Pyr.run_lt, Pyr.run_le, Pyr.run_gt, Pyr.run_ge, Pyr.run_lenL, Pyr.run_lenT, Pyr.run_lenS, Pyr.run_int, Pyr.run_bool, Pyr.run_truB, Pyr.run_truL, Pyr.run_pur1, Pyr.run_frz1, Pyr.run_pSv, Pyr.run_pSo, Pyr.run_pSe, Pyr.run_fSv, Pyr.run_fSo, Pyr.run_fSe, Pyr.run_pur0, Pyr.run_frz0, Pyr.run_v0n, Pyr.run_v0b, Pyr.run_v0i, Pyr.run_v0s, Pyr.run_v0l, Pyr.run_v0t, Pyr.run_v0o, Pyr.run_vN, Pyr.run_vS, Pyr.run_bad, Pyr.run_exc, Pyr.run_map, Pyr.run_okL, List.length_cons, List.length_nil, Pyr.bind_ok, List.set_cons_zero, List.set_cons_succ, List.getElem?_cons_zero, List.getElem?_cons_succ, Pyr.eqD_int, Pyr.eqD_str, Pyr.neD_int, Pyr.neD_str, if_true, if_false, Bool.not_true, Bool.not_false, Bool.false_eq_true, decide_true, decide_false, Pyr.run_atT0, Pyr.run_atT1, Pyr.run_atT2, Pyr.run_atT3, Pyr.run_atT4, Pyr.run_atL0, Pyr.run_atL1, Pyr.run_atL2, Pyr.run_atL3, Pyr.run_atL4, Pyr.isi_str_n, Pyr.isi_str_b, Pyr.isi_str_i, Pyr.isi_str_s, Pyr.isi_str_l, Pyr.isi_str_t, Pyr.isi_str_d, Pyr.isi_int_n, Pyr.isi_int_b, Pyr.isi_int_i, Pyr.isi_int_s, Pyr.isi_int_l, Pyr.isi_int_t, Pyr.isi_int_d, Pyr.isi_bool_n, Pyr.isi_bool_b, Pyr.isi_bool_i, Pyr.isi_bool_s, Pyr.isi_bool_l, Pyr.isi_bool_t, Pyr.isi_bool_d, Pyr.isi_list_n, Pyr.isi_list_b, Pyr.isi_list_i, Pyr.isi_list_s, Pyr.isi_list_l, Pyr.isi_list_t, Pyr.isi_list_d, Pyr.isi_tuple_n, Pyr.isi_tuple_b, Pyr.isi_tuple_i, Pyr.isi_tuple_s, Pyr.isi_tuple_l, Pyr.isi_tuple_t, Pyr.isi_tuple_d, Pyr.isi_dict_n, Pyr.isi_dict_b, Pyr.isi_dict_i, Pyr.isi_dict_s, Pyr.isi_dict_l, Pyr.isi_dict_t, Pyr.isi_dict_d, Nat.reduceAdd, Int.cast_ofNat_Int, Int.natCast_zero, Int.natCast_one, Int.reduceEq, Int.reduceLT, Int.reduceLE, Int.reduceAdd, Int.reduceSub, Int.reduceMul, Int.reduceNeg, Int.reduceNe, Nat.zero_add, reduceIte, decide_eq_true_eq, beq_self_eq_true, eq_self, Bool.true_or, Bool.or_true, Bool.and_true, Bool.true_and, Bool.false_or, Bool.or_false, Bool.and_false, Bool.false_and, a43, em7]; try rfl) ?_
  refine Eq.trans ?_ (Eq.trans estep ?_)
  · rfl
  refine Pyr.seqO (by simp -implicitDefEqProofs (disch := omega) only [Pyr.run_fSu, Pyr.run_pSu, Pyr.run_ownU, Pyr.RV.d, Pyr.run_flI, Pyr.run_flB, Pyr.run_flS, Pyr.run_flN, Pyr.sSeq, Pyr.sKill, Pyr.run_kill0, Pyr.run_killS, Pyr.sIf, Pyr.sSet, Pyr.sSetL, Pyr.sRet, Pyr.sRetL, Pyr.sRetN, Pyr.sRetO, Pyr.sDrop, Pyr.sApp, Pyr.sNext, Pyr.sFrz, Pyr.sSetT, Pyr.tgF, Pyr.setsF, Pyr.evP, Pyr.evL, Pyr.evT, Pyr.bare, Pyr.eC, Pyr.e1, Pyr.e2, Pyr.eN, Pyr.aC, Pyr.a0, Pyr.eIf, Pyr.eAnd, Pyr.eOr, Pyr.eNot, Pyr.eChain, Pyr.tE, Pyr.tNotR, Pyr.tAndR, Pyr.tOrR, Pyr.eCall, Pyr.lCall, Pyr.iF, Pyr.iF2, Pyr.lN, Pyr.lF, Pyr.eFs, Pyr.jC, Pyr.j0, Pyr.eIxV, Pyr.ownI, Pyr.lAdd, Pyr.sExt, Pyr.sPop, Pyr.trF, Pyr.trsF, Trs.len, Pyr.run_max2, Pyr.run_min2, Pyr.backD, Pyr.eSlice, Pyr.oNone, Pyr.oSome, Pyr.optI, Pyr.lSlice, Pyr.listD, eL, Pyr.eB, Pyr.oneD, Pyr.oneL, Pyr.itemsD, Pyr.outR, Pyr.ownD, Pyr.RV.d, Pyr.tupD, Pyr.run_mul, Pyr.run_mulS, Pyr.run_add, Pyr.run_sub, Pyr.run_addS, Pyr.run_mod, Pyr.run_fdiv, Pyr.run_lt, Pyr.run_le, Pyr.run_gt, Pyr.run_ge, Pyr.run_lenL, Pyr.run_lenT, Pyr.run_lenS, Pyr.run_int, Pyr.run_bool, Pyr.run_truB, Pyr.run_truL, Pyr.run_pur1, Pyr.run_frz1, Pyr.run_pSv, Pyr.run_pSo, Pyr.run_pSe, Pyr.run_fSv, Pyr.run_fSo, Pyr.run_fSe, Pyr.run_pur0, Pyr.run_frz0, Pyr.run_v0n, Pyr.run_v0b, Pyr.run_v0i, Pyr.run_v0s, Pyr.run_v0l, Pyr.run_v0t, Pyr.run_v0o, Pyr.run_vN, Pyr.run_vS, Pyr.run_bad, Pyr.run_exc, Pyr.run_map, Pyr.run_okL, List.length_cons, List.length_nil, Pyr.bind_ok, List.set_cons_zero, List.set_cons_succ, List.getElem?_cons_zero, List.getElem?_cons_succ, Pyr.eqD_int, Pyr.eqD_str, Pyr.neD_int, Pyr.neD_str, if_true, if_false, Bool.not_true, Bool.not_false, Bool.false_eq_true, decide_true, decide_false, Pyr.run_atT0, Pyr.run_atT1, Pyr.run_atT2, Pyr.run_atT3, Pyr.run_atT4, Pyr.run_atL0, Pyr.run_atL1, Pyr.run_atL2, Pyr.run_atL3, Pyr.run_atL4, Pyr.isi_str_n, Pyr.isi_str_b, Pyr.isi_str_i, Pyr.isi_str_s, Pyr.isi_str_l, Pyr.isi_str_t, Pyr.isi_str_d, Pyr.isi_int_n, Pyr.isi_int_b, Pyr.isi_int_i, Pyr.isi_int_s, Pyr.isi_int_l, Pyr.isi_int_t, Pyr.isi_int_d, Pyr.isi_bool_n, Pyr.isi_bool_b, Pyr.isi_bool_i, Pyr.isi_bool_s, Pyr.isi_bool_l, Pyr.isi_bool_t, Pyr.isi_bool_d, Pyr.isi_list_n, Pyr.isi_list_b, Pyr.isi_list_i, Pyr.isi_list_s, Pyr.isi_list_l, Pyr.isi_list_t, Pyr.isi_list_d, Pyr.isi_tuple_n, Pyr.isi_tuple_b, Pyr.isi_tuple_i, Pyr.isi_tuple_s, Pyr.isi_tuple_l, Pyr.isi_tuple_t, Pyr.isi_tuple_d, Pyr.isi_dict_n, Pyr.isi_dict_b, Pyr.isi_dict_i, Pyr.isi_dict_s, Pyr.isi_dict_l, Pyr.isi_dict_t, Pyr.isi_dict_d, Nat.reduceAdd, Int.cast_ofNat_Int, Int.natCast_zero, Int.natCast_one, Int.reduceEq, Int.reduceLT, Int.reduceLE, Int.reduceAdd, Int.reduceSub, Int.reduceMul, Int.reduceNeg, Int.reduceNe, Nat.zero_add, reduceIte, decide_eq_true_eq, beq_self_eq_true, eq_self, Bool.true_or, Bool.or_true, Bool.and_true, Bool.true_and, Bool.false_or, Bool.or_false, Bool.and_false, Bool.false_and, a45, a46, e5, aw, optI, c50, eA]; try rfl) ?_
  refine seqO (setL_ok eD) ?_
  refine Pyr.seqO (by simp -implicitDefEqProofs (disch := omega) only [Pyr.run_fSu, Pyr.run_pSu, Pyr.run_ownU, Pyr.RV.d, Pyr.run_flI, Pyr.run_flB, Pyr.run_flS, Pyr.run_flN, Pyr.sSeq, Pyr.sKill, Pyr.run_kill0, Pyr.run_killS, Pyr.sIf, Pyr.sSet, Pyr.sSetL, Pyr.sRet, Pyr.sRetL, Pyr.sRetN, Pyr.sRetO, Pyr.sDrop, Pyr.sApp, Pyr.sNext, Pyr.sFrz, Pyr.sSetT, Pyr.tgF, Pyr.setsF, Pyr.evP, Pyr.evL, Pyr.evT, Pyr.bare, Pyr.eC, Pyr.e1, Pyr.e2, Pyr.eN, Pyr.aC, Pyr.a0, Pyr.eIf, Pyr.eAnd, Pyr.eOr, Pyr.eNot, Pyr.eChain, Pyr.tE, Pyr.tNotR, Pyr.tAndR, Pyr.tOrR, Pyr.eCall, Pyr.lCall, Pyr.iF, Pyr.iF2, Pyr.lN, Pyr.lF, Pyr.eFs, Pyr.jC, Pyr.j0, Pyr.eIxV, Pyr.ownI, Pyr.lAdd, Pyr.sExt, Pyr.sPop, Pyr.trF, Pyr.trsF, Trs.len, Pyr.run_max2, Pyr.run_min2, Pyr.backD, Pyr.eSlice, Pyr.oNone, Pyr.oSome, Pyr.optI, Pyr.lSlice, Pyr.listD, eL, Pyr.eB, Pyr.oneD, Pyr.oneL, Pyr.itemsD, Pyr.outR, Pyr.ownD, Pyr.RV.d, Pyr.tupD, Pyr.run_mul, Pyr.run_mulS, Pyr.run_add, Pyr.run_sub, Pyr.run_addS, Pyr.run_mod, Pyr.run_fdiv, Pyr.run_lt, Pyr.run_le, Pyr.run_gt, Pyr.run_ge, Pyr.run_lenL, Pyr.run_lenT, Pyr.run_lenS, Pyr.run_int, Pyr.run_bool, Pyr.run_truB, Pyr.run_truL, Pyr.run_pur1, Pyr.run_frz1, Pyr.run_pSv, Pyr.run_pSo, Pyr.run_pSe, Pyr.run_fSv, Pyr.run_fSo, Pyr.run_fSe, Pyr.run_pur0, Pyr.run_frz0, Pyr.run_v0n, Pyr.run_v0b, Pyr.run_v0i, Pyr.run_v0s, Pyr.run_v0l, Pyr.run_v0t, Pyr.run_v0o, Pyr.run_vN, Pyr.run_vS, Pyr.run_bad, Pyr.run_exc, Pyr.run_map, Pyr.run_okL, List.length_cons, List.length_nil, Pyr.bind_ok, List.set_cons_zero, List.set_cons_succ, List.getElem?_cons_zero, List.getElem?_cons_succ, Pyr.eqD_int, Pyr.eqD_str, Pyr.neD_int, Pyr.neD_str, if_true, if_false, Bool.not_true, Bool.not_false, Bool.false_eq_true, decide_true, decide_false, Pyr.run_atT0, Pyr.run_atT1, Pyr.run_atT2, Pyr.run_atT3, Pyr.run_atT4, Pyr.run_atL0, Pyr.run_atL1, Pyr.run_atL2, Pyr.run_atL3, Pyr.run_atL4, Pyr.isi_str_n, Pyr.isi_str_b, Pyr.isi_str_i, Pyr.isi_str_s, Pyr.isi_str_l, Pyr.isi_str_t, Pyr.isi_str_d, Pyr.isi_int_n, Pyr.isi_int_b, Pyr.isi_int_i, Pyr.isi_int_s, Pyr.isi_int_l, Pyr.isi_int_t, Pyr.isi_int_d, Pyr.isi_bool_n, Pyr.isi_bool_b, Pyr.isi_bool_i, Pyr.isi_bool_s, Pyr.isi_bool_l, Pyr.isi_bool_t, Pyr.isi_bool_d, Pyr.isi_list_n, Pyr.isi_list_b, Pyr.isi_list_i, Pyr.isi_list_s, Pyr.isi_list_l, Pyr.isi_list_t, Pyr.isi_list_d, Pyr.isi_tuple_n, Pyr.isi_tuple_b, Pyr.isi_tuple_i, Pyr.isi_tuple_s, Pyr.isi_tuple_l, Pyr.isi_tuple_t, Pyr.isi_tuple_d, Pyr.isi_dict_n, Pyr.isi_dict_b, Pyr.isi_dict_i, Pyr.isi_dict_s, Pyr.isi_dict_l, Pyr.isi_dict_t, Pyr.isi_dict_d, Nat.reduceAdd, Int.cast_ofNat_Int, Int.natCast_zero, Int.natCast_one, Int.reduceEq, Int.reduceLT, Int.reduceLE, Int.reduceAdd, Int.reduceSub, Int.reduceMul, Int.reduceNeg, Int.reduceNe, Nat.zero_add, reduceIte, decide_eq_true_eq, beq_self_eq_true, eq_self, Bool.true_or, Bool.or_true, Bool.and_true, Bool.true_and, Bool.false_or, Bool.or_false, Bool.and_false, Bool.false_and, optI, c140, a171, em6, g1, eB]; try rfl) ?_
  refine seqO (setL_ok (cI _ hB.lf hA.lf (by omega) rfl (fun _ => rfl) (fun d hd => (show (if isLo d = true then Res.bad else .ok d) = _ by rw [hd]; rfl)))) ?_
  simp only [T_law_10, Pyr.sFrz, List.getElem?_cons_succ, List.getElem?_cons_zero, List.set_cons_succ, List.set_cons_zero]
  refine Pyr.seqO (by simp -implicitDefEqProofs (disch := omega) only [Pyr.run_fSu, Pyr.run_pSu, Pyr.run_ownU, Pyr.RV.d, Pyr.run_flI, Pyr.run_flB, Pyr.run_flS, Pyr.run_flN, Pyr.sSeq, Pyr.sKill, Pyr.run_kill0, Pyr.run_killS, Pyr.sIf, Pyr.sSet, Pyr.sSetL, Pyr.sRet, Pyr.sRetL, Pyr.sRetN, Pyr.sRetO, Pyr.sDrop, Pyr.sApp, Pyr.sNext, Pyr.sFrz, Pyr.sSetT, Pyr.tgF, Pyr.setsF, Pyr.evP, Pyr.evL, Pyr.evT, Pyr.bare, Pyr.eC, Pyr.e1, Pyr.e2, Pyr.eN, Pyr.aC, Pyr.a0, Pyr.eIf, Pyr.eAnd, Pyr.eOr, Pyr.eNot, Pyr.eChain, Pyr.tE, Pyr.tNotR, Pyr.tAndR, Pyr.tOrR, Pyr.eCall, Pyr.lCall, Pyr.iF, Pyr.iF2, Pyr.lN, Pyr.lF, Pyr.eFs, Pyr.jC, Pyr.j0, Pyr.eIxV, Pyr.ownI, Pyr.lAdd, Pyr.sExt, Pyr.sPop, Pyr.trF, Pyr.trsF, Trs.len, Pyr.run_max2, Pyr.run_min2, Pyr.backD, Pyr.eSlice, Pyr.oNone, Pyr.oSome, Pyr.optI, Pyr.lSlice, Pyr.listD, eL, Pyr.eB, Pyr.oneD, Pyr.oneL, Pyr.itemsD, Pyr.outR, Pyr.ownD, Pyr.RV.d, Pyr.tupD, Pyr.run_mul, Pyr.run_mulS, Pyr.run_add, Pyr.run_sub, Pyr.run_addS, Pyr.run_mod, Pyr.run_fdiv, Pyr.run_lt, Pyr.run_le, Pyr.run_gt, Pyr.run_ge, Pyr.run_lenL, Pyr.run_lenT, Pyr.run_lenS, Pyr.run_int, Pyr.run_bool, Pyr.run_truB, Pyr.run_truL, Pyr.run_pur1, Pyr.run_frz1, Pyr.run_pSv, Pyr.run_pSo, Pyr.run_pSe, Pyr.run_fSv, Pyr.run_fSo, Pyr.run_fSe, Pyr.run_pur0, Pyr.run_frz0, Pyr.run_v0n, Pyr.run_v0b, Pyr.run_v0i, Pyr.run_v0s, Pyr.run_v0l, Pyr.run_v0t, Pyr.run_v0o, Pyr.run_vN, Pyr.run_vS, Pyr.run_bad, Pyr.run_exc, Pyr.run_map, Pyr.run_okL, List.length_cons, List.length_nil, Pyr.bind_ok, List.set_cons_zero, List.set_cons_succ, List.getElem?_cons_zero, List.getElem?_cons_succ, Pyr.eqD_int, Pyr.eqD_str, Pyr.neD_int, Pyr.neD_str, if_true, if_false, Bool.not_true, Bool.not_false, Bool.false_eq_true, decide_true, decide_false, Pyr.run_atT0, Pyr.run_atT1, Pyr.run_atT2, Pyr.run_atT3, Pyr.run_atT4, Pyr.run_atL0, Pyr.run_atL1, Pyr.run_atL2, Pyr.run_atL3, Pyr.run_atL4, Pyr.isi_str_n, Pyr.isi_str_b, Pyr.isi_str_i, Pyr.isi_str_s, Pyr.isi_str_l, Pyr.isi_str_t, Pyr.isi_str_d, Pyr.isi_int_n, Pyr.isi_int_b, Pyr.isi_int_i, Pyr.isi_int_s, Pyr.isi_int_l, Pyr.isi_int_t, Pyr.isi_int_d, Pyr.isi_bool_n, Pyr.isi_bool_b, Pyr.isi_bool_i, Pyr.isi_bool_s, Pyr.isi_bool_l, Pyr.isi_bool_t, Pyr.isi_bool_d, Pyr.isi_list_n, Pyr.isi_list_b, Pyr.isi_list_i, Pyr.isi_list_s, Pyr.isi_list_l, Pyr.isi_list_t, Pyr.isi_list_d, Pyr.isi_tuple_n, Pyr.isi_tuple_b, Pyr.isi_tuple_i, Pyr.isi_tuple_s, Pyr.isi_tuple_l, Pyr.isi_tuple_t, Pyr.isi_tuple_d, Pyr.isi_dict_n, Pyr.isi_dict_b, Pyr.isi_dict_i, Pyr.isi_dict_s, Pyr.isi_dict_l, Pyr.isi_dict_t, Pyr.isi_dict_d, Nat.reduceAdd, Int.cast_ofNat_Int, Int.natCast_zero, Int.natCast_one, Int.reduceEq, Int.reduceLT, Int.reduceLE, Int.reduceAdd, Int.reduceSub, Int.reduceMul, Int.reduceNeg, Int.reduceNe, Nat.zero_add, reduceIte, decide_eq_true_eq, beq_self_eq_true, eq_self, Bool.true_or, Bool.or_true, Bool.and_true, Bool.true_and, Bool.false_or, Bool.or_false, Bool.and_false, Bool.false_and]; try rfl) ?_
  simp only [T_law_11, Pyr.sFrz, List.getElem?_cons_succ, List.getElem?_cons_zero, List.set_cons_succ, List.set_cons_zero]
  -- what is due
  have hU := minus_comp A Dl 6 7 (purE [.val (.list (ns.map .int)), .val (.list (vs.map .int)), .val (.list (ps.map .str)), .val (.list (ws.map .str)), .val (.list (S.map tbD)), .val (.int (m : Int)), .val (.list (A.map ftD)), .val (.list (Dl.map ftD)), .val (.list (B.map ftD)), .val (.list ((minusF B A).map ftD)), .val (chD (Dl, minusF B A)), .emp, .emp, .emp, .emp, .emp])
    hA.lf hD.lf (by omega) rfl (fun _ => rfl) (fun d hd => (show (if isLo d = true then Res.bad else .ok d) = _ by rw [hd]; rfl))
  have inU : InS S (minusF A Dl ++ minusF B A) := fun f hf => (List.mem_append.mp hf).elim (fun h => hA.ins f (mem_minus.mp h).1) (hI.ins f)
  have lU : (minusF A Dl).length ≤ 24 := Nat.le_trans (minus_len A Dl) lA
  have adU : addD (.list ((minusF A Dl).map ftD)) (.list ((minusF B A).map ftD)) = .ok (.list ((minusF A Dl ++ minusF B A).map ftD)) := by
    rw [List.map_append]
    exact okL_ok (by show _ ≤ 100000; rw [List.length_map, List.length_map]; omega)
  have eU : K06.m__law_ascending [.list (S.map tbD), .list ((minusF A Dl ++ minusF B A).map ftD)] = .ok (.own ((ascF S (minusF A Dl ++ minusF B A)).map ftD)) := asc_run S _ (by omega) (by rw [List.length_append]; omega) inU
  have hE : Wor 29 S (ascF S (minusF A Dl ++ minusF B A)) := ⟨inS_sub inU fun f hf => asc_mem.mp hf, asc_sorted S _, asc_nodup S _, Nat.le_trans (asc_le S _) (by rw [List.length_append]; omega), fun f hf => (List.mem_append.mp (asc_mem.mp hf)).elim (fun h => hA.row f (mem_minus.mp h).1) (hI.row f)⟩
  have aE := after_run S A Dl (minusF B A) (by omega) s4 hA hI.ins (by omega) (by omega)
  refine seqO (set_ok (d := .list ((ascF S (minusF A Dl ++ minusF B A)).map ftD)) ?_) ?_
  · exact call_ok (r := .own ((ascF S (minusF A Dl ++ minusF B A)).map ftD)) (aC_ok rfl (aC_ok ((e2_ok (mapL_ok hU) rfl).trans adU) rfl)) eU
  have aE : m_after [.list (S.map tbD), .list (A.map ftD), .tuple [.list (Dl.map ftD), .list ((minusF B A).map ftD)]] = _ := aE
  refine Pyr.seqO (by simp -implicitDefEqProofs (disch := omega) only [Pyr.run_fSu, Pyr.run_pSu, Pyr.run_ownU, Pyr.RV.d, Pyr.run_flI, Pyr.run_flB, Pyr.run_flS, Pyr.run_flN, Pyr.sSeq, Pyr.sKill, Pyr.run_kill0, Pyr.run_killS, Pyr.sIf, Pyr.sSet, Pyr.sSetL, Pyr.sRet, Pyr.sRetL, Pyr.sRetN, Pyr.sRetO, Pyr.sDrop, Pyr.sApp, Pyr.sNext, Pyr.sFrz, Pyr.sSetT, Pyr.tgF, Pyr.setsF, Pyr.evP, Pyr.evL, Pyr.evT, Pyr.bare, Pyr.eC, Pyr.e1, Pyr.e2, Pyr.eN, Pyr.aC, Pyr.a0, Pyr.eIf, Pyr.eAnd, Pyr.eOr, Pyr.eNot, Pyr.eChain, Pyr.tE, Pyr.tNotR, Pyr.tAndR, Pyr.tOrR, Pyr.eCall, Pyr.lCall, Pyr.iF, Pyr.iF2, Pyr.lN, Pyr.lF, Pyr.eFs, Pyr.jC, Pyr.j0, Pyr.eIxV, Pyr.ownI, Pyr.lAdd, Pyr.sExt, Pyr.sPop, Pyr.trF, Pyr.trsF, Trs.len, Pyr.run_max2, Pyr.run_min2, Pyr.backD, Pyr.eSlice, Pyr.oNone, Pyr.oSome, Pyr.optI, Pyr.lSlice, Pyr.listD, eL, Pyr.eB, Pyr.oneD, Pyr.oneL, Pyr.itemsD, Pyr.outR, Pyr.ownD, Pyr.RV.d, Pyr.tupD, Pyr.run_mul, Pyr.run_mulS, Pyr.run_add, Pyr.run_sub, Pyr.run_addS, Pyr.run_mod, Pyr.run_fdiv, Pyr.run_lt, Pyr.run_le, Pyr.run_gt, Pyr.run_ge, Pyr.run_lenL, Pyr.run_lenT, Pyr.run_lenS, Pyr.run_int, Pyr.run_bool, Pyr.run_truB, Pyr.run_truL, Pyr.run_pur1, Pyr.run_frz1, Pyr.run_pSv, Pyr.run_pSo, Pyr.run_pSe, Pyr.run_fSv, Pyr.run_fSo, Pyr.run_fSe, Pyr.run_pur0, Pyr.run_frz0, Pyr.run_v0n, Pyr.run_v0b, Pyr.run_v0i, Pyr.run_v0s, Pyr.run_v0l, Pyr.run_v0t, Pyr.run_v0o, Pyr.run_vN, Pyr.run_vS, Pyr.run_bad, Pyr.run_exc, Pyr.run_map, Pyr.run_okL, List.length_cons, List.length_nil, Pyr.bind_ok, List.set_cons_zero, List.set_cons_succ, List.getElem?_cons_zero, List.getElem?_cons_succ, Pyr.eqD_int, Pyr.eqD_str, Pyr.neD_int, Pyr.neD_str, if_true, if_false, Bool.not_true, Bool.not_false, Bool.false_eq_true, decide_true, decide_false, Pyr.run_atT0, Pyr.run_atT1, Pyr.run_atT2, Pyr.run_atT3, Pyr.run_atT4, Pyr.run_atL0, Pyr.run_atL1, Pyr.run_atL2, Pyr.run_atL3, Pyr.run_atL4, Pyr.isi_str_n, Pyr.isi_str_b, Pyr.isi_str_i, Pyr.isi_str_s, Pyr.isi_str_l, Pyr.isi_str_t, Pyr.isi_str_d, Pyr.isi_int_n, Pyr.isi_int_b, Pyr.isi_int_i, Pyr.isi_int_s, Pyr.isi_int_l, Pyr.isi_int_t, Pyr.isi_int_d, Pyr.isi_bool_n, Pyr.isi_bool_b, Pyr.isi_bool_i, Pyr.isi_bool_s, Pyr.isi_bool_l, Pyr.isi_bool_t, Pyr.isi_bool_d, Pyr.isi_list_n, Pyr.isi_list_b, Pyr.isi_list_i, Pyr.isi_list_s, Pyr.isi_list_l, Pyr.isi_list_t, Pyr.isi_list_d, Pyr.isi_tuple_n, Pyr.isi_tuple_b, Pyr.isi_tuple_i, Pyr.isi_tuple_s, Pyr.isi_tuple_l, Pyr.isi_tuple_t, Pyr.isi_tuple_d, Pyr.isi_dict_n, Pyr.isi_dict_b, Pyr.isi_dict_i, Pyr.isi_dict_s, Pyr.isi_dict_l, Pyr.isi_dict_t, Pyr.isi_dict_d, Nat.reduceAdd, Int.cast_ofNat_Int, Int.natCast_zero, Int.natCast_one, Int.reduceEq, Int.reduceLT, Int.reduceLE, Int.reduceAdd, Int.reduceSub, Int.reduceMul, Int.reduceNeg, Int.reduceNe, Nat.zero_add, reduceIte, decide_eq_true_eq, beq_self_eq_true, eq_self, Bool.true_or, Bool.or_true, Bool.and_true, Bool.true_and, Bool.false_or, Bool.or_false, Bool.and_false, Bool.false_and, aE]; try rfl) ?_
  -- what is told of it
  have hfx : K06.m__law_is_facts [.list ((ascF S (minusF A Dl ++ minusF B A)).map ftD)] = .ok (.val (.bool true)) := by
    rw [q_isfacts]
    exact isfacts_run _ (by have := hE.len; omega) fun f hf => Nat.le_trans (hE.row f hf) (by decide)
  have nE : neD (.list ((ascF S (minusF A Dl ++ minusF B A)).map ftD)) (.list ((ascF S (minusF A Dl ++ minusF B A)).map ftD)) = .ok (.bool false) := by
    rw [ftE.neL hE.lf hE.lf]
    simp
  have okDI : ChOk (Dl, minusF B A) := ⟨hD.lf, hI.lf⟩
  have okID : ChOk (minusF B A, Dl) := ⟨hI.lf, hD.lf⟩
  have nDI : neD (chD (Dl, minusF B A)) (chD (Dl, minusF B A)) = .ok (.bool false) := by
    rw [chE.neD okDI okDI]
    simp
  have nID : neD (chD (minusF B A, Dl)) (chD (minusF B A, Dl)) = .ok (.bool false) := by
    rw [chE.neD okID okID]
    simp
  have gID : K06.m__law_is_change [chD (minusF B A, Dl)] = .ok (.val (.bool true)) := by
    rw [q_change]
    exact ischange_run _ (by show (minusF B A).length ≤ 10000; omega) (by show Dl.length ≤ 10000; omega) (fun f hf => Nat.le_trans (hI.row f hf) (by decide)) (fun f hf => Nat.le_trans (hD.row f hf) (by decide))
  have inv1 := inverse_run (Dl.map ftD) ((minusF B A).map ftD)
  have inv2 := inverse_run [] []
  have back : ascF S (minusF (ascF S (minusF A Dl ++ minusF B A)) (minusF B A) ++ Dl) = A := by
    have mem : ∀ f, f ∈ minusF (ascF S (minusF A Dl ++ minusF B A)) (minusF B A) ++ Dl ↔ f ∈ A := fun f => by
      rw [List.mem_append, mem_minus, asc_mem, List.mem_append, mem_minus, mem_minus]
      have := fun h => subD.subset (a := f) h
      by_cases x : f ∈ A <;> by_cases y : f ∈ B <;> by_cases z : f ∈ Dl <;> simp [x, y, z] <;> exact x (this z)
    exact asc_of (fun f hf => (List.mem_append.mp hf).elim (fun h => hE.ins f (mem_minus.mp h).1) (hD.ins f)) hA.srt hA.nd mem
  have aB : K06.m_after [.list (S.map tbD), .list ((ascF S (minusF A Dl ++ minusF B A)).map ftD), chD (minusF B A, Dl)] = .ok (.val (.list (A.map ftD))) := by
    have := after_run S _ (minusF B A) Dl (by omega) s4 hE hD.ins (by omega) (by omega)
    rw [back] at this
    exact this
  have aN : K06.m_after [.list (S.map tbD), .list (A.map ftD), chD ([], [])] = .ok (.val (.list (A.map ftD))) := by
    have := after_run S A [] [] (by omega) s4 hA (fun f hf => nomatch hf) (by simp) (by simp)
    rw [show ascF S (minusF A [] ++ []) = A from asc_of (fun f hf => hA.ins f (by simpa [mem_minus] using hf)) hA.srt hA.nd fun f => by simp [mem_minus]] at this
    exact this
  have eA2 : eqD (.list (A.map ftD)) (.list (A.map ftD)) = .ok (.bool true) := by
    rw [ftE.eqL hA.lf hA.lf]
    simp
  have nA2 : neD (.list (A.map ftD)) (.list (A.map ftD)) = .ok (.bool false) := by
    rw [ftE.neL hA.lf hA.lf]
    simp
  have e00 : eqD (.tuple [.list [], .list []]) (.tuple [.list [], .list []]) = .ok (.bool true) := by
    have ok : ChOk ([], []) := ⟨fun f hf => (by cases hf), fun f hf => (by cases hf)⟩
    show eqD (chD ([], [])) (chD ([], [])) = _
    rw [chE.eqD ok ok]
    simp
  have p0 : atD (.list (ps.map .str)) (.int 0) = .ok (.str (ps[0]'(by omega))) := str_at (k := 0) (by omega)
  unfold chD lfD at nDI nID gID aB aN
  simp only [List.map_nil] at aN
  have lX : ((minusF B A).map ftD).length + 1 ≤ 100000 := by rw [List.length_map]; omega
  have lY : (Dl.map ftD).length + 1 ≤ 100000 := by rw [List.length_map]; omega
  generalize (ascF S (minusF A Dl ++ minusF B A)).map ftD = xE at *
  generalize (minusF B A).map ftD = xI at *
  generalize Dl.map ftD = xD at *
  refine Pyr.seqO (by simp -implicitDefEqProofs (disch := omega) only [Pyr.run_fSu, Pyr.run_pSu, Pyr.run_ownU, Pyr.RV.d, Pyr.run_flI, Pyr.run_flB, Pyr.run_flS, Pyr.run_flN, Pyr.sSeq, Pyr.sKill, Pyr.run_kill0, Pyr.run_killS, Pyr.sIf, Pyr.sSet, Pyr.sSetL, Pyr.sRet, Pyr.sRetL, Pyr.sRetN, Pyr.sRetO, Pyr.sDrop, Pyr.sApp, Pyr.sNext, Pyr.sFrz, Pyr.sSetT, Pyr.tgF, Pyr.setsF, Pyr.evP, Pyr.evL, Pyr.evT, Pyr.bare, Pyr.eC, Pyr.e1, Pyr.e2, Pyr.eN, Pyr.aC, Pyr.a0, Pyr.eIf, Pyr.eAnd, Pyr.eOr, Pyr.eNot, Pyr.eChain, Pyr.tE, Pyr.tNotR, Pyr.tAndR, Pyr.tOrR, Pyr.eCall, Pyr.lCall, Pyr.iF, Pyr.iF2, Pyr.lN, Pyr.lF, Pyr.eFs, Pyr.jC, Pyr.j0, Pyr.eIxV, Pyr.ownI, Pyr.lAdd, Pyr.sExt, Pyr.sPop, Pyr.trF, Pyr.trsF, Trs.len, Pyr.run_max2, Pyr.run_min2, Pyr.backD, Pyr.eSlice, Pyr.oNone, Pyr.oSome, Pyr.optI, Pyr.lSlice, Pyr.listD, eL, Pyr.eB, Pyr.oneD, Pyr.oneL, Pyr.itemsD, Pyr.outR, Pyr.ownD, Pyr.RV.d, Pyr.tupD, Pyr.run_mul, Pyr.run_mulS, Pyr.run_add, Pyr.run_sub, Pyr.run_addS, Pyr.run_mod, Pyr.run_fdiv, Pyr.run_lt, Pyr.run_le, Pyr.run_gt, Pyr.run_ge, Pyr.run_lenL, Pyr.run_lenT, Pyr.run_lenS, Pyr.run_int, Pyr.run_bool, Pyr.run_truB, Pyr.run_truL, Pyr.run_pur1, Pyr.run_frz1, Pyr.run_pSv, Pyr.run_pSo, Pyr.run_pSe, Pyr.run_fSv, Pyr.run_fSo, Pyr.run_fSe, Pyr.run_pur0, Pyr.run_frz0, Pyr.run_v0n, Pyr.run_v0b, Pyr.run_v0i, Pyr.run_v0s, Pyr.run_v0l, Pyr.run_v0t, Pyr.run_v0o, Pyr.run_vN, Pyr.run_vS, Pyr.run_bad, Pyr.run_exc, Pyr.run_map, Pyr.run_okL, List.length_cons, List.length_nil, Pyr.bind_ok, List.set_cons_zero, List.set_cons_succ, List.getElem?_cons_zero, List.getElem?_cons_succ, Pyr.eqD_int, Pyr.eqD_str, Pyr.neD_int, Pyr.neD_str, if_true, if_false, Bool.not_true, Bool.not_false, Bool.false_eq_true, decide_true, decide_false, Pyr.run_atT0, Pyr.run_atT1, Pyr.run_atT2, Pyr.run_atT3, Pyr.run_atT4, Pyr.run_atL0, Pyr.run_atL1, Pyr.run_atL2, Pyr.run_atL3, Pyr.run_atL4, Pyr.isi_str_n, Pyr.isi_str_b, Pyr.isi_str_i, Pyr.isi_str_s, Pyr.isi_str_l, Pyr.isi_str_t, Pyr.isi_str_d, Pyr.isi_int_n, Pyr.isi_int_b, Pyr.isi_int_i, Pyr.isi_int_s, Pyr.isi_int_l, Pyr.isi_int_t, Pyr.isi_int_d, Pyr.isi_bool_n, Pyr.isi_bool_b, Pyr.isi_bool_i, Pyr.isi_bool_s, Pyr.isi_bool_l, Pyr.isi_bool_t, Pyr.isi_bool_d, Pyr.isi_list_n, Pyr.isi_list_b, Pyr.isi_list_i, Pyr.isi_list_s, Pyr.isi_list_l, Pyr.isi_list_t, Pyr.isi_list_d, Pyr.isi_tuple_n, Pyr.isi_tuple_b, Pyr.isi_tuple_i, Pyr.isi_tuple_s, Pyr.isi_tuple_l, Pyr.isi_tuple_t, Pyr.isi_tuple_d, Pyr.isi_dict_n, Pyr.isi_dict_b, Pyr.isi_dict_i, Pyr.isi_dict_s, Pyr.isi_dict_l, Pyr.isi_dict_t, Pyr.isi_dict_d, Nat.reduceAdd, Int.cast_ofNat_Int, Int.natCast_zero, Int.natCast_one, Int.reduceEq, Int.reduceLT, Int.reduceLE, Int.reduceAdd, Int.reduceSub, Int.reduceMul, Int.reduceNeg, Int.reduceNe, Nat.zero_add, reduceIte, decide_eq_true_eq, beq_self_eq_true, eq_self, Bool.true_or, Bool.or_true, Bool.and_true, Bool.true_and, Bool.false_or, Bool.or_false, Bool.and_false, Bool.false_and, hfx, nE, nDI]; try rfl) ?_
  refine seqO (show sSetO2 13 _ _ = .ok (.next _) from congrArg (fun z : Res (List (List Pyr.D)) => z.bind _) (show uCall _ _ _ = .ok [xI, xD] by unfold uCall; simp -implicitDefEqProofs (disch := omega) only [Pyr.run_fSu, Pyr.run_pSu, Pyr.run_ownU, Pyr.RV.d, Pyr.run_flI, Pyr.run_flB, Pyr.run_flS, Pyr.run_flN, Pyr.sSeq, Pyr.sKill, Pyr.run_kill0, Pyr.run_killS, Pyr.sIf, Pyr.sSet, Pyr.sSetL, Pyr.sRet, Pyr.sRetL, Pyr.sRetN, Pyr.sRetO, Pyr.sDrop, Pyr.sApp, Pyr.sNext, Pyr.sFrz, Pyr.sSetT, Pyr.tgF, Pyr.setsF, Pyr.evP, Pyr.evL, Pyr.evT, Pyr.bare, Pyr.eC, Pyr.e1, Pyr.e2, Pyr.eN, Pyr.aC, Pyr.a0, Pyr.eIf, Pyr.eAnd, Pyr.eOr, Pyr.eNot, Pyr.eChain, Pyr.tE, Pyr.tNotR, Pyr.tAndR, Pyr.tOrR, Pyr.eCall, Pyr.lCall, Pyr.iF, Pyr.iF2, Pyr.lN, Pyr.lF, Pyr.eFs, Pyr.jC, Pyr.j0, Pyr.eIxV, Pyr.ownI, Pyr.lAdd, Pyr.sExt, Pyr.sPop, Pyr.trF, Pyr.trsF, Trs.len, Pyr.run_max2, Pyr.run_min2, Pyr.backD, Pyr.eSlice, Pyr.oNone, Pyr.oSome, Pyr.optI, Pyr.lSlice, Pyr.listD, eL, Pyr.eB, Pyr.oneD, Pyr.oneL, Pyr.itemsD, Pyr.outR, Pyr.ownD, Pyr.RV.d, Pyr.tupD, Pyr.run_mul, Pyr.run_mulS, Pyr.run_add, Pyr.run_sub, Pyr.run_addS, Pyr.run_mod, Pyr.run_fdiv, Pyr.run_lt, Pyr.run_le, Pyr.run_gt, Pyr.run_ge, Pyr.run_lenL, Pyr.run_lenT, Pyr.run_lenS, Pyr.run_int, Pyr.run_bool, Pyr.run_truB, Pyr.run_truL, Pyr.run_pur1, Pyr.run_frz1, Pyr.run_pSv, Pyr.run_pSo, Pyr.run_pSe, Pyr.run_fSv, Pyr.run_fSo, Pyr.run_fSe, Pyr.run_pur0, Pyr.run_frz0, Pyr.run_v0n, Pyr.run_v0b, Pyr.run_v0i, Pyr.run_v0s, Pyr.run_v0l, Pyr.run_v0t, Pyr.run_v0o, Pyr.run_vN, Pyr.run_vS, Pyr.run_bad, Pyr.run_exc, Pyr.run_map, Pyr.run_okL, List.length_cons, List.length_nil, Pyr.bind_ok, List.set_cons_zero, List.set_cons_succ, List.getElem?_cons_zero, List.getElem?_cons_succ, Pyr.eqD_int, Pyr.eqD_str, Pyr.neD_int, Pyr.neD_str, if_true, if_false, Bool.not_true, Bool.not_false, Bool.false_eq_true, decide_true, decide_false, Pyr.run_atT0, Pyr.run_atT1, Pyr.run_atT2, Pyr.run_atT3, Pyr.run_atT4, Pyr.run_atL0, Pyr.run_atL1, Pyr.run_atL2, Pyr.run_atL3, Pyr.run_atL4, Pyr.isi_str_n, Pyr.isi_str_b, Pyr.isi_str_i, Pyr.isi_str_s, Pyr.isi_str_l, Pyr.isi_str_t, Pyr.isi_str_d, Pyr.isi_int_n, Pyr.isi_int_b, Pyr.isi_int_i, Pyr.isi_int_s, Pyr.isi_int_l, Pyr.isi_int_t, Pyr.isi_int_d, Pyr.isi_bool_n, Pyr.isi_bool_b, Pyr.isi_bool_i, Pyr.isi_bool_s, Pyr.isi_bool_l, Pyr.isi_bool_t, Pyr.isi_bool_d, Pyr.isi_list_n, Pyr.isi_list_b, Pyr.isi_list_i, Pyr.isi_list_s, Pyr.isi_list_l, Pyr.isi_list_t, Pyr.isi_list_d, Pyr.isi_tuple_n, Pyr.isi_tuple_b, Pyr.isi_tuple_i, Pyr.isi_tuple_s, Pyr.isi_tuple_l, Pyr.isi_tuple_t, Pyr.isi_tuple_d, Pyr.isi_dict_n, Pyr.isi_dict_b, Pyr.isi_dict_i, Pyr.isi_dict_s, Pyr.isi_dict_l, Pyr.isi_dict_t, Pyr.isi_dict_d, Nat.reduceAdd, Int.cast_ofNat_Int, Int.natCast_zero, Int.natCast_one, Int.reduceEq, Int.reduceLT, Int.reduceLE, Int.reduceAdd, Int.reduceSub, Int.reduceMul, Int.reduceNeg, Int.reduceNe, Nat.zero_add, reduceIte, decide_eq_true_eq, beq_self_eq_true, eq_self, Bool.true_or, Bool.or_true, Bool.and_true, Bool.true_and, Bool.false_or, Bool.or_false, Bool.and_false, Bool.false_and, inv1, ownU])) ?_
  refine Pyr.seqO (by simp -implicitDefEqProofs (disch := omega) only [Pyr.run_fSu, Pyr.run_pSu, Pyr.run_ownU, Pyr.RV.d, Pyr.run_flI, Pyr.run_flB, Pyr.run_flS, Pyr.run_flN, Pyr.sSeq, Pyr.sKill, Pyr.run_kill0, Pyr.run_killS, Pyr.sIf, Pyr.sSet, Pyr.sSetL, Pyr.sRet, Pyr.sRetL, Pyr.sRetN, Pyr.sRetO, Pyr.sDrop, Pyr.sApp, Pyr.sNext, Pyr.sFrz, Pyr.sSetT, Pyr.tgF, Pyr.setsF, Pyr.evP, Pyr.evL, Pyr.evT, Pyr.bare, Pyr.eC, Pyr.e1, Pyr.e2, Pyr.eN, Pyr.aC, Pyr.a0, Pyr.eIf, Pyr.eAnd, Pyr.eOr, Pyr.eNot, Pyr.eChain, Pyr.tE, Pyr.tNotR, Pyr.tAndR, Pyr.tOrR, Pyr.eCall, Pyr.lCall, Pyr.iF, Pyr.iF2, Pyr.lN, Pyr.lF, Pyr.eFs, Pyr.jC, Pyr.j0, Pyr.eIxV, Pyr.ownI, Pyr.lAdd, Pyr.sExt, Pyr.sPop, Pyr.trF, Pyr.trsF, Trs.len, Pyr.run_max2, Pyr.run_min2, Pyr.backD, Pyr.eSlice, Pyr.oNone, Pyr.oSome, Pyr.optI, Pyr.lSlice, Pyr.listD, eL, Pyr.eB, Pyr.oneD, Pyr.oneL, Pyr.itemsD, Pyr.outR, Pyr.ownD, Pyr.RV.d, Pyr.tupD, Pyr.run_mul, Pyr.run_mulS, Pyr.run_add, Pyr.run_sub, Pyr.run_addS, Pyr.run_mod, Pyr.run_fdiv, Pyr.run_lt, Pyr.run_le, Pyr.run_gt, Pyr.run_ge, Pyr.run_lenL, Pyr.run_lenT, Pyr.run_lenS, Pyr.run_int, Pyr.run_bool, Pyr.run_truB, Pyr.run_truL, Pyr.run_pur1, Pyr.run_frz1, Pyr.run_pSv, Pyr.run_pSo, Pyr.run_pSe, Pyr.run_fSv, Pyr.run_fSo, Pyr.run_fSe, Pyr.run_pur0, Pyr.run_frz0, Pyr.run_v0n, Pyr.run_v0b, Pyr.run_v0i, Pyr.run_v0s, Pyr.run_v0l, Pyr.run_v0t, Pyr.run_v0o, Pyr.run_vN, Pyr.run_vS, Pyr.run_bad, Pyr.run_exc, Pyr.run_map, Pyr.run_okL, List.length_cons, List.length_nil, Pyr.bind_ok, List.set_cons_zero, List.set_cons_succ, List.getElem?_cons_zero, List.getElem?_cons_succ, Pyr.eqD_int, Pyr.eqD_str, Pyr.neD_int, Pyr.neD_str, if_true, if_false, Bool.not_true, Bool.not_false, Bool.false_eq_true, decide_true, decide_false, Pyr.run_atT0, Pyr.run_atT1, Pyr.run_atT2, Pyr.run_atT3, Pyr.run_atT4, Pyr.run_atL0, Pyr.run_atL1, Pyr.run_atL2, Pyr.run_atL3, Pyr.run_atL4, Pyr.isi_str_n, Pyr.isi_str_b, Pyr.isi_str_i, Pyr.isi_str_s, Pyr.isi_str_l, Pyr.isi_str_t, Pyr.isi_str_d, Pyr.isi_int_n, Pyr.isi_int_b, Pyr.isi_int_i, Pyr.isi_int_s, Pyr.isi_int_l, Pyr.isi_int_t, Pyr.isi_int_d, Pyr.isi_bool_n, Pyr.isi_bool_b, Pyr.isi_bool_i, Pyr.isi_bool_s, Pyr.isi_bool_l, Pyr.isi_bool_t, Pyr.isi_bool_d, Pyr.isi_list_n, Pyr.isi_list_b, Pyr.isi_list_i, Pyr.isi_list_s, Pyr.isi_list_l, Pyr.isi_list_t, Pyr.isi_list_d, Pyr.isi_tuple_n, Pyr.isi_tuple_b, Pyr.isi_tuple_i, Pyr.isi_tuple_s, Pyr.isi_tuple_l, Pyr.isi_tuple_t, Pyr.isi_tuple_d, Pyr.isi_dict_n, Pyr.isi_dict_b, Pyr.isi_dict_i, Pyr.isi_dict_s, Pyr.isi_dict_l, Pyr.isi_dict_t, Pyr.isi_dict_d, Nat.reduceAdd, Int.cast_ofNat_Int, Int.natCast_zero, Int.natCast_one, Int.reduceEq, Int.reduceLT, Int.reduceLE, Int.reduceAdd, Int.reduceSub, Int.reduceMul, Int.reduceNeg, Int.reduceNe, Nat.zero_add, reduceIte, decide_eq_true_eq, beq_self_eq_true, eq_self, Bool.true_or, Bool.or_true, Bool.and_true, Bool.true_and, Bool.false_or, Bool.or_false, Bool.and_false, Bool.false_and, gID, nID]; try rfl) ?_
  refine Pyr.seqO (by simp -implicitDefEqProofs (disch := omega) only [Pyr.run_fSu, Pyr.run_pSu, Pyr.run_ownU, Pyr.RV.d, Pyr.run_flI, Pyr.run_flB, Pyr.run_flS, Pyr.run_flN, Pyr.sSeq, Pyr.sKill, Pyr.run_kill0, Pyr.run_killS, Pyr.sIf, Pyr.sSet, Pyr.sSetL, Pyr.sRet, Pyr.sRetL, Pyr.sRetN, Pyr.sRetO, Pyr.sDrop, Pyr.sApp, Pyr.sNext, Pyr.sFrz, Pyr.sSetT, Pyr.tgF, Pyr.setsF, Pyr.evP, Pyr.evL, Pyr.evT, Pyr.bare, Pyr.eC, Pyr.e1, Pyr.e2, Pyr.eN, Pyr.aC, Pyr.a0, Pyr.eIf, Pyr.eAnd, Pyr.eOr, Pyr.eNot, Pyr.eChain, Pyr.tE, Pyr.tNotR, Pyr.tAndR, Pyr.tOrR, Pyr.eCall, Pyr.lCall, Pyr.iF, Pyr.iF2, Pyr.lN, Pyr.lF, Pyr.eFs, Pyr.jC, Pyr.j0, Pyr.eIxV, Pyr.ownI, Pyr.lAdd, Pyr.sExt, Pyr.sPop, Pyr.trF, Pyr.trsF, Trs.len, Pyr.run_max2, Pyr.run_min2, Pyr.backD, Pyr.eSlice, Pyr.oNone, Pyr.oSome, Pyr.optI, Pyr.lSlice, Pyr.listD, eL, Pyr.eB, Pyr.oneD, Pyr.oneL, Pyr.itemsD, Pyr.outR, Pyr.ownD, Pyr.RV.d, Pyr.tupD, Pyr.run_mul, Pyr.run_mulS, Pyr.run_add, Pyr.run_sub, Pyr.run_addS, Pyr.run_mod, Pyr.run_fdiv, Pyr.run_lt, Pyr.run_le, Pyr.run_gt, Pyr.run_ge, Pyr.run_lenL, Pyr.run_lenT, Pyr.run_lenS, Pyr.run_int, Pyr.run_bool, Pyr.run_truB, Pyr.run_truL, Pyr.run_pur1, Pyr.run_frz1, Pyr.run_pSv, Pyr.run_pSo, Pyr.run_pSe, Pyr.run_fSv, Pyr.run_fSo, Pyr.run_fSe, Pyr.run_pur0, Pyr.run_frz0, Pyr.run_v0n, Pyr.run_v0b, Pyr.run_v0i, Pyr.run_v0s, Pyr.run_v0l, Pyr.run_v0t, Pyr.run_v0o, Pyr.run_vN, Pyr.run_vS, Pyr.run_bad, Pyr.run_exc, Pyr.run_map, Pyr.run_okL, List.length_cons, List.length_nil, Pyr.bind_ok, List.set_cons_zero, List.set_cons_succ, List.getElem?_cons_zero, List.getElem?_cons_succ, Pyr.eqD_int, Pyr.eqD_str, Pyr.neD_int, Pyr.neD_str, if_true, if_false, Bool.not_true, Bool.not_false, Bool.false_eq_true, decide_true, decide_false, Pyr.run_atT0, Pyr.run_atT1, Pyr.run_atT2, Pyr.run_atT3, Pyr.run_atT4, Pyr.run_atL0, Pyr.run_atL1, Pyr.run_atL2, Pyr.run_atL3, Pyr.run_atL4, Pyr.isi_str_n, Pyr.isi_str_b, Pyr.isi_str_i, Pyr.isi_str_s, Pyr.isi_str_l, Pyr.isi_str_t, Pyr.isi_str_d, Pyr.isi_int_n, Pyr.isi_int_b, Pyr.isi_int_i, Pyr.isi_int_s, Pyr.isi_int_l, Pyr.isi_int_t, Pyr.isi_int_d, Pyr.isi_bool_n, Pyr.isi_bool_b, Pyr.isi_bool_i, Pyr.isi_bool_s, Pyr.isi_bool_l, Pyr.isi_bool_t, Pyr.isi_bool_d, Pyr.isi_list_n, Pyr.isi_list_b, Pyr.isi_list_i, Pyr.isi_list_s, Pyr.isi_list_l, Pyr.isi_list_t, Pyr.isi_list_d, Pyr.isi_tuple_n, Pyr.isi_tuple_b, Pyr.isi_tuple_i, Pyr.isi_tuple_s, Pyr.isi_tuple_l, Pyr.isi_tuple_t, Pyr.isi_tuple_d, Pyr.isi_dict_n, Pyr.isi_dict_b, Pyr.isi_dict_i, Pyr.isi_dict_s, Pyr.isi_dict_l, Pyr.isi_dict_t, Pyr.isi_dict_d, Nat.reduceAdd, Int.cast_ofNat_Int, Int.natCast_zero, Int.natCast_one, Int.reduceEq, Int.reduceLT, Int.reduceLE, Int.reduceAdd, Int.reduceSub, Int.reduceMul, Int.reduceNeg, Int.reduceNe, Nat.zero_add, reduceIte, decide_eq_true_eq, beq_self_eq_true, eq_self, Bool.true_or, Bool.or_true, Bool.and_true, Bool.true_and, Bool.false_or, Bool.or_false, Bool.and_false, Bool.false_and, aB, nA2]; try rfl) ?_
  refine seqO (show sAppU 13 0 _ _ = .ok (.next _) by unfold sAppU; simp -implicitDefEqProofs (disch := omega) only [Pyr.run_fSu, Pyr.run_pSu, Pyr.run_ownU, Pyr.RV.d, Pyr.run_flI, Pyr.run_flB, Pyr.run_flS, Pyr.run_flN, Pyr.sSeq, Pyr.sKill, Pyr.run_kill0, Pyr.run_killS, Pyr.sIf, Pyr.sSet, Pyr.sSetL, Pyr.sRet, Pyr.sRetL, Pyr.sRetN, Pyr.sRetO, Pyr.sDrop, Pyr.sApp, Pyr.sNext, Pyr.sFrz, Pyr.sSetT, Pyr.tgF, Pyr.setsF, Pyr.evP, Pyr.evL, Pyr.evT, Pyr.bare, Pyr.eC, Pyr.e1, Pyr.e2, Pyr.eN, Pyr.aC, Pyr.a0, Pyr.eIf, Pyr.eAnd, Pyr.eOr, Pyr.eNot, Pyr.eChain, Pyr.tE, Pyr.tNotR, Pyr.tAndR, Pyr.tOrR, Pyr.eCall, Pyr.lCall, Pyr.iF, Pyr.iF2, Pyr.lN, Pyr.lF, Pyr.eFs, Pyr.jC, Pyr.j0, Pyr.eIxV, Pyr.ownI, Pyr.lAdd, Pyr.sExt, Pyr.sPop, Pyr.trF, Pyr.trsF, Trs.len, Pyr.run_max2, Pyr.run_min2, Pyr.backD, Pyr.eSlice, Pyr.oNone, Pyr.oSome, Pyr.optI, Pyr.lSlice, Pyr.listD, eL, Pyr.eB, Pyr.oneD, Pyr.oneL, Pyr.itemsD, Pyr.outR, Pyr.ownD, Pyr.RV.d, Pyr.tupD, Pyr.run_mul, Pyr.run_mulS, Pyr.run_add, Pyr.run_sub, Pyr.run_addS, Pyr.run_mod, Pyr.run_fdiv, Pyr.run_lt, Pyr.run_le, Pyr.run_gt, Pyr.run_ge, Pyr.run_lenL, Pyr.run_lenT, Pyr.run_lenS, Pyr.run_int, Pyr.run_bool, Pyr.run_truB, Pyr.run_truL, Pyr.run_pur1, Pyr.run_frz1, Pyr.run_pSv, Pyr.run_pSo, Pyr.run_pSe, Pyr.run_fSv, Pyr.run_fSo, Pyr.run_fSe, Pyr.run_pur0, Pyr.run_frz0, Pyr.run_v0n, Pyr.run_v0b, Pyr.run_v0i, Pyr.run_v0s, Pyr.run_v0l, Pyr.run_v0t, Pyr.run_v0o, Pyr.run_vN, Pyr.run_vS, Pyr.run_bad, Pyr.run_exc, Pyr.run_map, Pyr.run_okL, List.length_cons, List.length_nil, Pyr.bind_ok, List.set_cons_zero, List.set_cons_succ, List.getElem?_cons_zero, List.getElem?_cons_succ, Pyr.eqD_int, Pyr.eqD_str, Pyr.neD_int, Pyr.neD_str, if_true, if_false, Bool.not_true, Bool.not_false, Bool.false_eq_true, decide_true, decide_false, Pyr.run_atT0, Pyr.run_atT1, Pyr.run_atT2, Pyr.run_atT3, Pyr.run_atT4, Pyr.run_atL0, Pyr.run_atL1, Pyr.run_atL2, Pyr.run_atL3, Pyr.run_atL4, Pyr.isi_str_n, Pyr.isi_str_b, Pyr.isi_str_i, Pyr.isi_str_s, Pyr.isi_str_l, Pyr.isi_str_t, Pyr.isi_str_d, Pyr.isi_int_n, Pyr.isi_int_b, Pyr.isi_int_i, Pyr.isi_int_s, Pyr.isi_int_l, Pyr.isi_int_t, Pyr.isi_int_d, Pyr.isi_bool_n, Pyr.isi_bool_b, Pyr.isi_bool_i, Pyr.isi_bool_s, Pyr.isi_bool_l, Pyr.isi_bool_t, Pyr.isi_bool_d, Pyr.isi_list_n, Pyr.isi_list_b, Pyr.isi_list_i, Pyr.isi_list_s, Pyr.isi_list_l, Pyr.isi_list_t, Pyr.isi_list_d, Pyr.isi_tuple_n, Pyr.isi_tuple_b, Pyr.isi_tuple_i, Pyr.isi_tuple_s, Pyr.isi_tuple_l, Pyr.isi_tuple_t, Pyr.isi_tuple_d, Pyr.isi_dict_n, Pyr.isi_dict_b, Pyr.isi_dict_i, Pyr.isi_dict_s, Pyr.isi_dict_l, Pyr.isi_dict_t, Pyr.isi_dict_d, Nat.reduceAdd, Int.cast_ofNat_Int, Int.natCast_zero, Int.natCast_one, Int.reduceEq, Int.reduceLT, Int.reduceLE, Int.reduceAdd, Int.reduceSub, Int.reduceMul, Int.reduceNeg, Int.reduceNe, Nat.zero_add, reduceIte, decide_eq_true_eq, beq_self_eq_true, eq_self, Bool.true_or, Bool.or_true, Bool.and_true, Bool.true_and, Bool.false_or, Bool.or_false, Bool.and_false, Bool.false_and, p0, lX]; try rfl) ?_
  refine seqO (show sAppU 13 1 _ _ = .ok (.next _) by unfold sAppU; simp -implicitDefEqProofs (disch := omega) only [Pyr.run_fSu, Pyr.run_pSu, Pyr.run_ownU, Pyr.RV.d, Pyr.run_flI, Pyr.run_flB, Pyr.run_flS, Pyr.run_flN, Pyr.sSeq, Pyr.sKill, Pyr.run_kill0, Pyr.run_killS, Pyr.sIf, Pyr.sSet, Pyr.sSetL, Pyr.sRet, Pyr.sRetL, Pyr.sRetN, Pyr.sRetO, Pyr.sDrop, Pyr.sApp, Pyr.sNext, Pyr.sFrz, Pyr.sSetT, Pyr.tgF, Pyr.setsF, Pyr.evP, Pyr.evL, Pyr.evT, Pyr.bare, Pyr.eC, Pyr.e1, Pyr.e2, Pyr.eN, Pyr.aC, Pyr.a0, Pyr.eIf, Pyr.eAnd, Pyr.eOr, Pyr.eNot, Pyr.eChain, Pyr.tE, Pyr.tNotR, Pyr.tAndR, Pyr.tOrR, Pyr.eCall, Pyr.lCall, Pyr.iF, Pyr.iF2, Pyr.lN, Pyr.lF, Pyr.eFs, Pyr.jC, Pyr.j0, Pyr.eIxV, Pyr.ownI, Pyr.lAdd, Pyr.sExt, Pyr.sPop, Pyr.trF, Pyr.trsF, Trs.len, Pyr.run_max2, Pyr.run_min2, Pyr.backD, Pyr.eSlice, Pyr.oNone, Pyr.oSome, Pyr.optI, Pyr.lSlice, Pyr.listD, eL, Pyr.eB, Pyr.oneD, Pyr.oneL, Pyr.itemsD, Pyr.outR, Pyr.ownD, Pyr.RV.d, Pyr.tupD, Pyr.run_mul, Pyr.run_mulS, Pyr.run_add, Pyr.run_sub, Pyr.run_addS, Pyr.run_mod, Pyr.run_fdiv, Pyr.run_lt, Pyr.run_le, Pyr.run_gt, Pyr.run_ge, Pyr.run_lenL, Pyr.run_lenT, Pyr.run_lenS, Pyr.run_int, Pyr.run_bool, Pyr.run_truB, Pyr.run_truL, Pyr.run_pur1, Pyr.run_frz1, Pyr.run_pSv, Pyr.run_pSo, Pyr.run_pSe, Pyr.run_fSv, Pyr.run_fSo, Pyr.run_fSe, Pyr.run_pur0, Pyr.run_frz0, Pyr.run_v0n, Pyr.run_v0b, Pyr.run_v0i, Pyr.run_v0s, Pyr.run_v0l, Pyr.run_v0t, Pyr.run_v0o, Pyr.run_vN, Pyr.run_vS, Pyr.run_bad, Pyr.run_exc, Pyr.run_map, Pyr.run_okL, List.length_cons, List.length_nil, Pyr.bind_ok, List.set_cons_zero, List.set_cons_succ, List.getElem?_cons_zero, List.getElem?_cons_succ, Pyr.eqD_int, Pyr.eqD_str, Pyr.neD_int, Pyr.neD_str, if_true, if_false, Bool.not_true, Bool.not_false, Bool.false_eq_true, decide_true, decide_false, Pyr.run_atT0, Pyr.run_atT1, Pyr.run_atT2, Pyr.run_atT3, Pyr.run_atT4, Pyr.run_atL0, Pyr.run_atL1, Pyr.run_atL2, Pyr.run_atL3, Pyr.run_atL4, Pyr.isi_str_n, Pyr.isi_str_b, Pyr.isi_str_i, Pyr.isi_str_s, Pyr.isi_str_l, Pyr.isi_str_t, Pyr.isi_str_d, Pyr.isi_int_n, Pyr.isi_int_b, Pyr.isi_int_i, Pyr.isi_int_s, Pyr.isi_int_l, Pyr.isi_int_t, Pyr.isi_int_d, Pyr.isi_bool_n, Pyr.isi_bool_b, Pyr.isi_bool_i, Pyr.isi_bool_s, Pyr.isi_bool_l, Pyr.isi_bool_t, Pyr.isi_bool_d, Pyr.isi_list_n, Pyr.isi_list_b, Pyr.isi_list_i, Pyr.isi_list_s, Pyr.isi_list_l, Pyr.isi_list_t, Pyr.isi_list_d, Pyr.isi_tuple_n, Pyr.isi_tuple_b, Pyr.isi_tuple_i, Pyr.isi_tuple_s, Pyr.isi_tuple_l, Pyr.isi_tuple_t, Pyr.isi_tuple_d, Pyr.isi_dict_n, Pyr.isi_dict_b, Pyr.isi_dict_i, Pyr.isi_dict_s, Pyr.isi_dict_l, Pyr.isi_dict_t, Pyr.isi_dict_d, Nat.reduceAdd, Int.cast_ofNat_Int, Int.natCast_zero, Int.natCast_one, Int.reduceEq, Int.reduceLT, Int.reduceLE, Int.reduceAdd, Int.reduceSub, Int.reduceMul, Int.reduceNeg, Int.reduceNe, Nat.zero_add, reduceIte, decide_eq_true_eq, beq_self_eq_true, eq_self, Bool.true_or, Bool.or_true, Bool.and_true, Bool.true_and, Bool.false_or, Bool.or_false, Bool.and_false, Bool.false_and, p0, lY]; try rfl) ?_
  refine Pyr.seqO (by simp -implicitDefEqProofs (disch := omega) only [Pyr.run_fSu, Pyr.run_pSu, Pyr.run_ownU, Pyr.RV.d, Pyr.run_flI, Pyr.run_flB, Pyr.run_flS, Pyr.run_flN, Pyr.sSeq, Pyr.sKill, Pyr.run_kill0, Pyr.run_killS, Pyr.sIf, Pyr.sSet, Pyr.sSetL, Pyr.sRet, Pyr.sRetL, Pyr.sRetN, Pyr.sRetO, Pyr.sDrop, Pyr.sApp, Pyr.sNext, Pyr.sFrz, Pyr.sSetT, Pyr.tgF, Pyr.setsF, Pyr.evP, Pyr.evL, Pyr.evT, Pyr.bare, Pyr.eC, Pyr.e1, Pyr.e2, Pyr.eN, Pyr.aC, Pyr.a0, Pyr.eIf, Pyr.eAnd, Pyr.eOr, Pyr.eNot, Pyr.eChain, Pyr.tE, Pyr.tNotR, Pyr.tAndR, Pyr.tOrR, Pyr.eCall, Pyr.lCall, Pyr.iF, Pyr.iF2, Pyr.lN, Pyr.lF, Pyr.eFs, Pyr.jC, Pyr.j0, Pyr.eIxV, Pyr.ownI, Pyr.lAdd, Pyr.sExt, Pyr.sPop, Pyr.trF, Pyr.trsF, Trs.len, Pyr.run_max2, Pyr.run_min2, Pyr.backD, Pyr.eSlice, Pyr.oNone, Pyr.oSome, Pyr.optI, Pyr.lSlice, Pyr.listD, eL, Pyr.eB, Pyr.oneD, Pyr.oneL, Pyr.itemsD, Pyr.outR, Pyr.ownD, Pyr.RV.d, Pyr.tupD, Pyr.run_mul, Pyr.run_mulS, Pyr.run_add, Pyr.run_sub, Pyr.run_addS, Pyr.run_mod, Pyr.run_fdiv, Pyr.run_lt, Pyr.run_le, Pyr.run_gt, Pyr.run_ge, Pyr.run_lenL, Pyr.run_lenT, Pyr.run_lenS, Pyr.run_int, Pyr.run_bool, Pyr.run_truB, Pyr.run_truL, Pyr.run_pur1, Pyr.run_frz1, Pyr.run_pSv, Pyr.run_pSo, Pyr.run_pSe, Pyr.run_fSv, Pyr.run_fSo, Pyr.run_fSe, Pyr.run_pur0, Pyr.run_frz0, Pyr.run_v0n, Pyr.run_v0b, Pyr.run_v0i, Pyr.run_v0s, Pyr.run_v0l, Pyr.run_v0t, Pyr.run_v0o, Pyr.run_vN, Pyr.run_vS, Pyr.run_bad, Pyr.run_exc, Pyr.run_map, Pyr.run_okL, List.length_cons, List.length_nil, Pyr.bind_ok, List.set_cons_zero, List.set_cons_succ, List.getElem?_cons_zero, List.getElem?_cons_succ, Pyr.eqD_int, Pyr.eqD_str, Pyr.neD_int, Pyr.neD_str, if_true, if_false, Bool.not_true, Bool.not_false, Bool.false_eq_true, decide_true, decide_false, Pyr.run_atT0, Pyr.run_atT1, Pyr.run_atT2, Pyr.run_atT3, Pyr.run_atT4, Pyr.run_atL0, Pyr.run_atL1, Pyr.run_atL2, Pyr.run_atL3, Pyr.run_atL4, Pyr.isi_str_n, Pyr.isi_str_b, Pyr.isi_str_i, Pyr.isi_str_s, Pyr.isi_str_l, Pyr.isi_str_t, Pyr.isi_str_d, Pyr.isi_int_n, Pyr.isi_int_b, Pyr.isi_int_i, Pyr.isi_int_s, Pyr.isi_int_l, Pyr.isi_int_t, Pyr.isi_int_d, Pyr.isi_bool_n, Pyr.isi_bool_b, Pyr.isi_bool_i, Pyr.isi_bool_s, Pyr.isi_bool_l, Pyr.isi_bool_t, Pyr.isi_bool_d, Pyr.isi_list_n, Pyr.isi_list_b, Pyr.isi_list_i, Pyr.isi_list_s, Pyr.isi_list_l, Pyr.isi_list_t, Pyr.isi_list_d, Pyr.isi_tuple_n, Pyr.isi_tuple_b, Pyr.isi_tuple_i, Pyr.isi_tuple_s, Pyr.isi_tuple_l, Pyr.isi_tuple_t, Pyr.isi_tuple_d, Pyr.isi_dict_n, Pyr.isi_dict_b, Pyr.isi_dict_i, Pyr.isi_dict_s, Pyr.isi_dict_l, Pyr.isi_dict_t, Pyr.isi_dict_d, Nat.reduceAdd, Int.cast_ofNat_Int, Int.natCast_zero, Int.natCast_one, Int.reduceEq, Int.reduceLT, Int.reduceLE, Int.reduceAdd, Int.reduceSub, Int.reduceMul, Int.reduceNeg, Int.reduceNe, Nat.zero_add, reduceIte, decide_eq_true_eq, beq_self_eq_true, eq_self, Bool.true_or, Bool.or_true, Bool.and_true, Bool.true_and, Bool.false_or, Bool.or_false, Bool.and_false, Bool.false_and, inv1, nDI, nID, List.map_cons, List.map_nil]; try rfl) ?_
  unfold T_law_20
  simp -implicitDefEqProofs (disch := omega) only [Pyr.run_fSu, Pyr.run_pSu, Pyr.run_ownU, Pyr.RV.d, Pyr.run_flI, Pyr.run_flB, Pyr.run_flS, Pyr.run_flN, Pyr.sSeq, Pyr.sKill, Pyr.run_kill0, Pyr.run_killS, Pyr.sIf, Pyr.sSet, Pyr.sSetL, Pyr.sRet, Pyr.sRetL, Pyr.sRetN, Pyr.sRetO, Pyr.sDrop, Pyr.sApp, Pyr.sNext, Pyr.sFrz, Pyr.sSetT, Pyr.tgF, Pyr.setsF, Pyr.evP, Pyr.evL, Pyr.evT, Pyr.bare, Pyr.eC, Pyr.e1, Pyr.e2, Pyr.eN, Pyr.aC, Pyr.a0, Pyr.eIf, Pyr.eAnd, Pyr.eOr, Pyr.eNot, Pyr.eChain, Pyr.tE, Pyr.tNotR, Pyr.tAndR, Pyr.tOrR, Pyr.eCall, Pyr.lCall, Pyr.iF, Pyr.iF2, Pyr.lN, Pyr.lF, Pyr.eFs, Pyr.jC, Pyr.j0, Pyr.eIxV, Pyr.ownI, Pyr.lAdd, Pyr.sExt, Pyr.sPop, Pyr.trF, Pyr.trsF, Trs.len, Pyr.run_max2, Pyr.run_min2, Pyr.backD, Pyr.eSlice, Pyr.oNone, Pyr.oSome, Pyr.optI, Pyr.lSlice, Pyr.listD, eL, Pyr.eB, Pyr.oneD, Pyr.oneL, Pyr.itemsD, Pyr.outR, Pyr.ownD, Pyr.RV.d, Pyr.tupD, Pyr.run_mul, Pyr.run_mulS, Pyr.run_add, Pyr.run_sub, Pyr.run_addS, Pyr.run_mod, Pyr.run_fdiv, Pyr.run_lt, Pyr.run_le, Pyr.run_gt, Pyr.run_ge, Pyr.run_lenL, Pyr.run_lenT, Pyr.run_lenS, Pyr.run_int, Pyr.run_bool, Pyr.run_truB, Pyr.run_truL, Pyr.run_pur1, Pyr.run_frz1, Pyr.run_pSv, Pyr.run_pSo, Pyr.run_pSe, Pyr.run_fSv, Pyr.run_fSo, Pyr.run_fSe, Pyr.run_pur0, Pyr.run_frz0, Pyr.run_v0n, Pyr.run_v0b, Pyr.run_v0i, Pyr.run_v0s, Pyr.run_v0l, Pyr.run_v0t, Pyr.run_v0o, Pyr.run_vN, Pyr.run_vS, Pyr.run_bad, Pyr.run_exc, Pyr.run_map, Pyr.run_okL, List.length_cons, List.length_nil, Pyr.bind_ok, List.set_cons_zero, List.set_cons_succ, List.getElem?_cons_zero, List.getElem?_cons_succ, Pyr.eqD_int, Pyr.eqD_str, Pyr.neD_int, Pyr.neD_str, if_true, if_false, Bool.not_true, Bool.not_false, Bool.false_eq_true, decide_true, decide_false, Pyr.run_atT0, Pyr.run_atT1, Pyr.run_atT2, Pyr.run_atT3, Pyr.run_atT4, Pyr.run_atL0, Pyr.run_atL1, Pyr.run_atL2, Pyr.run_atL3, Pyr.run_atL4, Pyr.isi_str_n, Pyr.isi_str_b, Pyr.isi_str_i, Pyr.isi_str_s, Pyr.isi_str_l, Pyr.isi_str_t, Pyr.isi_str_d, Pyr.isi_int_n, Pyr.isi_int_b, Pyr.isi_int_i, Pyr.isi_int_s, Pyr.isi_int_l, Pyr.isi_int_t, Pyr.isi_int_d, Pyr.isi_bool_n, Pyr.isi_bool_b, Pyr.isi_bool_i, Pyr.isi_bool_s, Pyr.isi_bool_l, Pyr.isi_bool_t, Pyr.isi_bool_d, Pyr.isi_list_n, Pyr.isi_list_b, Pyr.isi_list_i, Pyr.isi_list_s, Pyr.isi_list_l, Pyr.isi_list_t, Pyr.isi_list_d, Pyr.isi_tuple_n, Pyr.isi_tuple_b, Pyr.isi_tuple_i, Pyr.isi_tuple_s, Pyr.isi_tuple_l, Pyr.isi_tuple_t, Pyr.isi_tuple_d, Pyr.isi_dict_n, Pyr.isi_dict_b, Pyr.isi_dict_i, Pyr.isi_dict_s, Pyr.isi_dict_l, Pyr.isi_dict_t, Pyr.isi_dict_d, Nat.reduceAdd, Int.cast_ofNat_Int, Int.natCast_zero, Int.natCast_one, Int.reduceEq, Int.reduceLT, Int.reduceLE, Int.reduceAdd, Int.reduceSub, Int.reduceMul, Int.reduceNeg, Int.reduceNe, Nat.zero_add, reduceIte, decide_eq_true_eq, beq_self_eq_true, eq_self, Bool.true_or, Bool.or_true, Bool.and_true, Bool.true_and, Bool.false_or, Bool.or_false, Bool.and_false, Bool.false_and, aN, eA2, inv2, e00, List.map_nil, List.map_cons]
theorem ends {P : Program} {w : World} {K : PySem.W.Frag} {mg : Str → Option Value} {h : Heap} {fa : Addr} {q : Program} (X : K.In h) (G : h.Ns mainGlobals mg) (hfa : mg "law" = some (.ref fa)) (tabs : ∀ (y : Str) (dd : DefRec) (c P : Addr), (recsOf q).find? (fun e => e.name == y) = some dd → PySem.W.tabIn K y = some (c, P) → PySem.W.CodeHd h c P ∧ h.get? P = some (PySem.W.tabObj #[])) (d__law_draws : DefIn K "_law_draws" s__law_draws) (d__law_pool : DefIn K "_law_pool" s__law_pool) (d__law_schema : DefIn K "_law_schema" s__law_schema) (d__law_fact : DefIn K "_law_fact" s__law_fact) (d__law_facts : DefIn K "_law_facts" s__law_facts) (d__law_place : DefIn K "_law_place" s__law_place) (d__law_ascending : DefIn K "_law_ascending" s__law_ascending) (d__law_same_key : DefIn K "_law_same_key" s__law_same_key) (d__law_database : DefIn K "_law_database" s__law_database) (d_place_of : DefIn K "place_of" s_place_of) (d_ascending : DefIn K "ascending" s_ascending) (d_without : DefIn K "without" s_without) (d_after : DefIn K "after" s_after) (d_inverse : DefIn K "inverse" s_inverse) (d__law_is_facts : DefIn K "_law_is_facts" s__law_is_facts) (d__law_is_change : DefIn K "_law_is_change" s__law_is_change) (d_law : DefIn K "law" s_law) (y_all : PySem.W.nsIn K mainGlobals "all" = some none) (y_any : PySem.W.nsIn K mainGlobals "any" = some none) (y_enumerate : PySem.W.nsIn K mainGlobals "enumerate" = some none) (y_int : PySem.W.nsIn K mainGlobals "int" = some none) (y_isinstance : PySem.W.nsIn K mainGlobals "isinstance" = some none) (y_len : PySem.W.nsIn K mainGlobals "len" = some none) (y_list : PySem.W.nsIn K mainGlobals "list" = some none) (y_range : PySem.W.nsIn K mainGlobals "range" = some none) (y_set : PySem.W.nsIn K mainGlobals "set" = some none) (y_sorted : PySem.W.nsIn K mainGlobals "sorted" = some none) (y_str : PySem.W.nsIn K mainGlobals "str" = some none) (y_tuple : PySem.W.nsIn K mainGlobals "tuple" = some none)   :
    ∃ (fd : FuncData) (cs : List (Addr × Addr)), (∀ p ∈ cs, PySem.W.CodeHd h p.1 p.2 ∧ h.get? p.2 = some (PySem.W.tabObj #[])) ∧ (∀ p ∈ cs, K.lookup p.2 = none) ∧ (∀ (s : Shared) (u : Value), BindsTo s fd ⟨[u], []⟩ [("script", u)]) ∧ ∀ base : Heap, K.In base → base.Ns mainGlobals mg → (∀ p ∈ cs, GxR.TabB base mg p.1 p.2) → FnTop P w K mg base fa fd ["script"] (spLawT K (cs.map (·.2))) := by
  have q__law_draws : ∀ base : Heap, (∀ p ∈ ([] : List (Addr × Addr)), GxR.TabB base mg p.1 p.2) → Known (TabList.mk (List.map (·.2) ([] : List (Addr × Addr))) P w) P w K mg base 1 "_law_draws" ["script", "count"] m__law_draws := fun base ht => kn__law_draws (PySem.W.mg_none_of X G y_int) (PySem.W.mg_none_of X G y_len) (PySem.W.mg_none_of X G y_range)   (d__law_draws.dfn X G bo__law_draws)
  have q__law_pool : ∀ base : Heap, (∀ p ∈ ([] : List (Addr × Addr)), GxR.TabB base mg p.1 p.2) → Known (TabList.mk (List.map (·.2) ([] : List (Addr × Addr))) P w) P w K mg base 1 "_law_pool" ["first", "second", "many"] m__law_pool := fun base ht => kn__law_pool (PySem.W.mg_none_of X G y_int) (PySem.W.mg_none_of X G y_range)   (d__law_pool.dfn X G bo__law_pool)
  have q__law_schema : ∀ base : Heap, (∀ p ∈ ([] : List (Addr × Addr)), GxR.TabB base mg p.1 p.2) → Known (TabList.mk (List.map (·.2) ([] : List (Addr × Addr))) P w) P w K mg base 1 "_law_schema" ["draws", "pool"] m__law_schema := fun base ht => kn__law_schema (PySem.W.mg_none_of X G y_int) (PySem.W.mg_none_of X G y_range)   (d__law_schema.dfn X G bo__law_schema)
  have q__law_fact : ∀ base : Heap, (∀ p ∈ ([] : List (Addr × Addr)), GxR.TabB base mg p.1 p.2) → Known (TabList.mk (List.map (·.2) ([] : List (Addr × Addr))) P w) P w K mg base 1 "_law_fact" ["schema", "words", "draws"] m__law_fact := fun base ht => kn__law_fact (PySem.W.mg_none_of X G y_int) (PySem.W.mg_none_of X G y_len) (PySem.W.mg_none_of X G y_range) (PySem.W.mg_none_of X G y_tuple)   (d__law_fact.dfn X G bo__law_fact)
  have q__law_facts : ∀ base : Heap, (∀ p ∈ ([] : List (Addr × Addr)), GxR.TabB base mg p.1 p.2) → Known (TabList.mk (List.map (·.2) ([] : List (Addr × Addr))) P w) P w K mg base 2 "_law_facts" ["schema", "words", "draws", "many"] m__law_facts := fun base ht => kn__law_facts (PySem.W.mg_none_of X G y_range)  (q__law_fact base ht) (d__law_facts.dfn X G bo__law_facts)
  have q__law_place : ∀ base : Heap, (∀ p ∈ ([] : List (Addr × Addr)), GxR.TabB base mg p.1 p.2) → Known (TabList.mk (List.map (·.2) ([] : List (Addr × Addr))) P w) P w K mg base 1 "_law_place" ["schema", "name"] m__law_place := fun base ht => kn__law_place (PySem.W.mg_none_of X G y_len) (PySem.W.mg_none_of X G y_range)   (d__law_place.dfn X G bo__law_place)
  have q__law_ascending : ∀ base : Heap, (∀ p ∈ ([] : List (Addr × Addr)), GxR.TabB base mg p.1 p.2) → Known (TabList.mk (List.map (·.2) ([] : List (Addr × Addr))) P w) P w K mg base 2 "_law_ascending" ["schema", "facts"] m__law_ascending := fun base ht => kn__law_ascending (PySem.W.mg_none_of X G y_sorted)  (q__law_place base ht) (d__law_ascending.dfn X G bo__law_ascending)
  have q__law_same_key : ∀ base : Heap, (∀ p ∈ ([] : List (Addr × Addr)), GxR.TabB base mg p.1 p.2) → Known (TabList.mk (List.map (·.2) ([] : List (Addr × Addr))) P w) P w K mg base 1 "_law_same_key" ["schema", "first", "second"] m__law_same_key := fun base ht => kn__law_same_key    (d__law_same_key.dfn X G bo__law_same_key)
  have q__law_database : ∀ base : Heap, (∀ p ∈ ([] : List (Addr × Addr)), GxR.TabB base mg p.1 p.2) → Known (TabList.mk (List.map (·.2) ([] : List (Addr × Addr))) P w) P w K mg base 3 "_law_database" ["schema", "words", "draws", "many"] m__law_database := fun base ht => kn__law_database (PySem.W.mg_none_of X G y_any)  (q__law_ascending base ht) (q__law_facts base ht) (q__law_same_key base ht) (d__law_database.dfn X G bo__law_database)
  have q_place_of : ∀ base : Heap, (∀ p ∈ ([] : List (Addr × Addr)), GxR.TabB base mg p.1 p.2) → Known (TabList.mk (List.map (·.2) ([] : List (Addr × Addr))) P w) P w K mg base 1 "place_of" ["schema", "name"] m_place_of := fun base ht => kn_place_of (PySem.W.mg_none_of X G y_enumerate)   (d_place_of.dfn X G bo_place_of)
  have q_ascending : ∀ base : Heap, (∀ p ∈ ([] : List (Addr × Addr)), GxR.TabB base mg p.1 p.2) → Known (TabList.mk (List.map (·.2) ([] : List (Addr × Addr))) P w) P w K mg base 2 "ascending" ["schema", "facts"] m_ascending := fun base ht => kn_ascending (PySem.W.mg_none_of X G y_sorted)  (q_place_of base ht) (d_ascending.dfn X G bo_ascending)
  have q_without : ∀ base : Heap, (∀ p ∈ ([] : List (Addr × Addr)), GxR.TabB base mg p.1 p.2) → Known (TabList.mk (List.map (·.2) ([] : List (Addr × Addr))) P w) P w K mg base 1 "without" ["these", "others"] m_without := fun base ht => kn_without (PySem.W.mg_none_of X G y_set)   (d_without.dfn X G bo_without)
  have q_after : ∀ base : Heap, (∀ p ∈ ([] : List (Addr × Addr)), GxR.TabB base mg p.1 p.2) → Known (TabList.mk (List.map (·.2) ([] : List (Addr × Addr))) P w) P w K mg base 3 "after" ["schema", "database", "change"] m_after := fun base ht => kn_after   (q_ascending base ht) (q_without base ht) (d_after.dfn X G bo_after)
  have q_inverse : ∀ base : Heap, (∀ p ∈ ([] : List (Addr × Addr)), GxR.TabB base mg p.1 p.2) → Known (TabList.mk (List.map (·.2) ([] : List (Addr × Addr))) P w) P w K mg base 1 "inverse" ["change"] m_inverse := fun base ht => kn_inverse (PySem.W.mg_none_of X G y_list)   (d_inverse.dfn X G bo_inverse)
  have q__law_is_facts : ∀ base : Heap, (∀ p ∈ ([] : List (Addr × Addr)), GxR.TabB base mg p.1 p.2) → Known (TabList.mk (List.map (·.2) ([] : List (Addr × Addr))) P w) P w K mg base 1 "_law_is_facts" ["actual"] m__law_is_facts := fun base ht => kn__law_is_facts (PySem.W.mg_none_of X G y_all) (PySem.W.mg_none_of X G y_isinstance) (PySem.W.mg_none_of X G y_len) (PySem.W.mg_none_of X G y_list) (PySem.W.mg_none_of X G y_str) (PySem.W.mg_none_of X G y_tuple)   (d__law_is_facts.dfn X G bo__law_is_facts)
  have q__law_is_change : ∀ base : Heap, (∀ p ∈ ([] : List (Addr × Addr)), GxR.TabB base mg p.1 p.2) → Known (TabList.mk (List.map (·.2) ([] : List (Addr × Addr))) P w) P w K mg base 2 "_law_is_change" ["actual"] m__law_is_change := fun base ht => kn__law_is_change (PySem.W.mg_none_of X G y_isinstance) (PySem.W.mg_none_of X G y_len) (PySem.W.mg_none_of X G y_tuple)  (q__law_is_facts base ht) (d__law_is_change.dfn X G bo__law_is_change)
  exact law_finG (k := 3) (cs := ([] : List (Addr × Addr))) X G hfa d_law bo_law (fun p hp => nomatch hp) (fun p hp => nomatch hp) sc_law ⟨rfl, by decide, by decide⟩ (fun base ht f cdv s H E hr => fk_law (base := base) (PySem.W.mg_none_of X G y_int) (PySem.W.mg_none_of X G y_len) (PySem.W.mg_none_of X G y_list) (PySem.W.mg_none_of X G y_range)  (q__law_ascending base ht) (q__law_database base ht) (q__law_draws base ht) (q__law_facts base ht) (q__law_is_change base ht) (q__law_is_facts base ht) (q__law_pool base ht) (q__law_schema base ht) (q_after base ht) (q_inverse base ht) f cdv s H E hr) law_true
end K06
open PySem PySem.W PyProof.Rows
set_option maxHeartbeats 0 in
theorem PySem.Challenge.cw_wishshown_k06_changes_and_back_holds : PySem.Challenge.rw_wishshown_k06_changes_and_back.Holds := by
  w_on; o_law; k_head; (case hw => w_witness2)
  k_fill
  refine Pyr.law_endG (l := PySem.Challenge.rw_wishshown_k06_changes_and_back) (x := "script") rfl rfl (fun w h Y => PySem.W.kIn_of Y) ?F
  case F =>
    intro w mg fa h KX G hmg tabs
    refine' K06.ends KX G hmg tabs ?vd0 ?vd1 ?vd2 ?vd3 ?vd4 ?vd5 ?vd6 ?vd7 ?vd8 ?vd9 ?vd10 ?vd11 ?vd12 ?vd13 ?vd14 ?vd15 ?vd16 ?vy0 ?vy1 ?vy2 ?vy3 ?vy4 ?vy5 ?vy6 ?vy7 ?vy8 ?vy9 ?vy10 ?vy11
    (case vd0 => exact ⟨_, _, _, _, _, _, _, _, _, _, by k_is, by k_is, by k_is, by k_is⟩)
    (case vd1 => exact ⟨_, _, _, _, _, _, _, _, _, _, by k_is, by k_is, by k_is, by k_is⟩)
    (case vd2 => exact ⟨_, _, _, _, _, _, _, _, _, _, by k_is, by k_is, by k_is, by k_is⟩)
    (case vd3 => exact ⟨_, _, _, _, _, _, _, _, _, _, by k_is, by k_is, by k_is, by k_is⟩)
    (case vd4 => exact ⟨_, _, _, _, _, _, _, _, _, _, by k_is, by k_is, by k_is, by k_is⟩)
    (case vd5 => exact ⟨_, _, _, _, _, _, _, _, _, _, by k_is, by k_is, by k_is, by k_is⟩)
    (case vd6 => exact ⟨_, _, _, _, _, _, _, _, _, _, by k_is, by k_is, by k_is, by k_is⟩)
    (case vd7 => exact ⟨_, _, _, _, _, _, _, _, _, _, by k_is, by k_is, by k_is, by k_is⟩)
    (case vd8 => exact ⟨_, _, _, _, _, _, _, _, _, _, by k_is, by k_is, by k_is, by k_is⟩)
    (case vd9 => exact ⟨_, _, _, _, _, _, _, _, _, _, by k_is, by k_is, by k_is, by k_is⟩)
    (case vd10 => exact ⟨_, _, _, _, _, _, _, _, _, _, by k_is, by k_is, by k_is, by k_is⟩)
    (case vd11 => exact ⟨_, _, _, _, _, _, _, _, _, _, by k_is, by k_is, by k_is, by k_is⟩)
    (case vd12 => exact ⟨_, _, _, _, _, _, _, _, _, _, by k_is, by k_is, by k_is, by k_is⟩)
    (case vd13 => exact ⟨_, _, _, _, _, _, _, _, _, _, by k_is, by k_is, by k_is, by k_is⟩)
    (case vd14 => exact ⟨_, _, _, _, _, _, _, _, _, _, by k_is, by k_is, by k_is, by k_is⟩)
    (case vd15 => exact ⟨_, _, _, _, _, _, _, _, _, _, by k_is, by k_is, by k_is, by k_is⟩)
    (case vd16 => exact ⟨_, _, _, _, _, _, _, _, _, _, by k_is, by k_is, by k_is, by k_is⟩)
    (case vy0 => k_is)
    (case vy1 => k_is)
    (case vy2 => k_is)
    (case vy3 => k_is)
    (case vy4 => k_is)
    (case vy5 => k_is)
    (case vy6 => k_is)
    (case vy7 => k_is)
    (case vy8 => k_is)
    (case vy9 => k_is)
    (case vy10 => k_is)
    (case vy11 => k_is)


