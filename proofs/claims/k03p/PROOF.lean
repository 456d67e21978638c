import PyProof.Rows.All
import Wide.All
import OpenK.AllK
import Wide.FinOn
import HandS.ForMost
import HandS.Exc
import HandS.ExcOwn
import HandS.TryOnly
import HandS.WordsExc
import HandS.Evl
import HandS.Walk
import HandS.IsInst
import HandS.AnyAll
import HandS.TupSets
import HandS.SetBool
import KE.KeyNested
import HandS.Strs
import HandS.SetFor
import PyProof.DictRoadsH
import HandS.Dict
import HandS.ExcCtx
import HandS.HotCalls
import HandS.Deep
import HandS.TupAny
import HandS.CallSlots
import HandS.GenList
import KE.KNest
import HandS.EndTab
import KE.SortData
import HandS.TupLe
import PyProof.ExcBaseAll.ValueError
import HandS.FStr
import PyProof.StrBlock2
import HandS.Style
import PyProof.Rows.TupMore
import KE.KUnpackStar
import HandS.SetKeys
import HandS.More
import HandS.Zip
import HandS.DictComp
import KE.KDictLaws
import HandS.ExcIs
import HandS.ListEq
import KE.KDictPairs
import HandS.DictTup
import HandS.Star
import KE.DataCmp
import HandS.ExcInit
import HandS.ExcField
import PySem.Challenge.RW_wishshown_k03_facts_and_databases
set_option maxHeartbeats 4000000
set_option Elab.async false
set_option autoImplicit false
set_option linter.all false
set_option maxRecDepth 100000
set_option maxHeartbeats 4000000
namespace Pyr
open PySem PySem.Spec PyProof.Rows L2
section
variable {P : Program} {w : World}
def Asked (P : Program) (w : World) (n : Nat) (s : Shared) (v : Value) : Prop := ∀ (A : Around) (E : Value → Shared → Prop) (Q : Bool → Shared → Prop), (∀ b, Q b s) → wpAny (model P w) A (hashByValue n v) Q E s
def NoCls (P : Program) (w : World) (n : Nat) (s : Shared) (v : Value) : Prop := ∀ (A : Around) (E : Value → Shared → Prop) (Q : Bool → Shared → Prop), Q false s → wpAny (model P w) A (ofAClassStatement n v) Q E s
theorem asked_tuple {n : Nat} {s : Shared} {a : Addr} {o : Obj} {vs : Array Value} {m : Nat} (ho : s.heap.get? a = some o) (hc : o.cls = .type "tuple") (hd : o.data = .seq vs m) (hq : ∀ v ∈ vs.toList, Asked P w n s v) : Asked P w (n + 1) s (.ref a) := fun A E Q q => by
  unfold hashByValue
  refine wpAny_bind (wpAny_specialOf (T := "tuple") ⟨o, ho, hc⟩ PySem.F.slot_tuple_hash.lookup ?_)
  show wpAny _ _ (seqItems? (.ref a) >>= _) _ _ s
  refine wpAny_bind (wpAny_seqItems ho hd (wpAny_bind ?_))
  show wpAny _ _ (forIn vs _ _) _ _ s
  rw [← Array.forIn_toList]
  refine wpAny_forIn_list _ (fun left r z => z = s ∧ r.1 = none ∧ ∀ v ∈ left, Asked P w n s v) _ ?_ ?_ _ _ ⟨rfl, rfl, hq⟩
  · rintro v left r z ⟨rfl, hr, al⟩
    refine wpAny_bind (al v List.mem_cons_self _ _ _ fun b => ?_)
    cases b
    · exact wpAny_pure (wpAny_pure (q false))
    · exact wpAny_pure ⟨rfl, rfl, fun u hu => al u (List.mem_cons_of_mem _ hu)⟩
  · rintro ⟨r1, r2⟩ z ⟨rfl, hr, _⟩
    obtain rfl : r1 = none := hr
    exact wpAny_pure (q true)
theorem noCls_tuple {n : Nat} {s : Shared} {a : Addr} {o : Obj} {vs : Array Value} {m : Nat} (ho : s.heap.get? a = some o) (hc : o.cls = .type "tuple") (hd : o.data = .seq vs m) (hq : ∀ v ∈ vs.toList, NoCls P w n s v) : NoCls P w (n + 1) s (.ref a) := fun A E Q q => by
  unfold ofAClassStatement
  refine wpAny_bind (wpAny_typeOf (T := "tuple") ⟨o, ho, hc⟩ ?_)
  dsimp only
  rw [show (("tuple" : String) == "tuple") = true from by decide]
  simp only [if_true, Bool.not_true, Bool.false_eq_true, if_false]
  try refine wpAny_bind (wpAny_pure ?_)
  try simp only [Bool.not_true, Bool.false_eq_true, if_false]
  show wpAny _ _ (seqItems? (.ref a) >>= _) _ _ s
  refine wpAny_bind (wpAny_seqItems ho hd ?_)
  dsimp only
  refine wpAny_bind ?_
  show wpAny _ _ (forIn vs _ _) _ _ s
  rw [← Array.forIn_toList]
  refine wpAny_forIn_list _ (fun left r z => z = s ∧ r.1 = none ∧ ∀ v ∈ left, NoCls P w n s v) _ ?_ ?_ _ _ ⟨rfl, rfl, hq⟩
  · rintro v left r z ⟨rfl, hr, al⟩
    refine wpAny_bind (al v List.mem_cons_self _ _ _ ?_)
    exact wpAny_pure ⟨rfl, rfl, fun u hu => al u (List.mem_cons_of_mem _ hu)⟩
  · rintro ⟨r1, r2⟩ z ⟨rfl, hr, _⟩
    obtain rfl : r1 = none := hr
    exact wpAny_pure q
mutual
theorem asked_key : ∀ (k : NestedKey) (v : Value) (n : Nat) (s : Shared), NestedIs s.heap k v → k.depth ≤ n → Asked P w n s v
  | .none, _, n, s, x, _ => by cases x; intro A E Q q; cases n <;> exact wpAny_pure (q true)
  | .num i, _, n, s, x, _ => by cases x <;> (intro A E Q q; cases n <;> exact wpAny_pure (q true))
  | .text y, _, n, s, x, _ => by cases x; intro A E Q q; cases n <;> exact wpAny_pure (q false)
  | .tup ks, _, 0, s, x, hn => absurd hn (by rw [NestedKey.depth]; exact Nat.not_succ_le_zero _)
  | .tup ks, _, n + 1, s, x, hn => by
    cases x with
    | tup hg hc hd hk => exact asked_tuple hg hc hd (asked_keys ks _ n s hk (by rw [NestedKey.depth] at hn; exact Nat.le_of_succ_le_succ hn))
theorem asked_keys : ∀ (ks : List NestedKey) (vs : List Value) (n : Nat) (s : Shared), NestedAll s.heap ks vs → NestedKey.depthAll ks ≤ n → ∀ v ∈ vs, Asked P w n s v
  | [], _, _, _, x, _, v, hv => by cases x; cases hv
  | k :: ks, _, n, s, x, hn, v, hv => by
    rw [NestedKey.depthAll] at hn
    cases x with
    | cons x1 x2 =>
      cases hv with
      | head => exact asked_key k _ n s x1 (Nat.le_trans (Nat.le_max_left _ _) hn)
      | tail _ hv => exact asked_keys ks _ n s x2 (Nat.le_trans (Nat.le_max_right _ _) hn) v hv
end
mutual
theorem noCls_key : ∀ (k : NestedKey) (v : Value) (n : Nat) (s : Shared), NestedIs s.heap k v → k.depth ≤ n → NoCls P w n s v
  | .none, _, n, s, x, _ => by cases x; intro A E Q q; cases n <;> exact wpAny_pure q
  | .num i, _, n, s, x, _ => by cases x <;> (intro A E Q q; cases n <;> exact wpAny_pure q)
  | .text y, _, n, s, x, _ => by cases x; intro A E Q q; cases n <;> exact wpAny_pure q
  | .tup ks, _, 0, s, x, hn => absurd hn (by rw [NestedKey.depth]; exact Nat.not_succ_le_zero _)
  | .tup ks, _, n + 1, s, x, hn => by
    cases x with
    | tup hg hc hd hk => exact noCls_tuple hg hc hd (noCls_keys ks _ n s hk (by rw [NestedKey.depth] at hn; exact Nat.le_of_succ_le_succ hn))
theorem noCls_keys : ∀ (ks : List NestedKey) (vs : List Value) (n : Nat) (s : Shared), NestedAll s.heap ks vs → NestedKey.depthAll ks ≤ n → ∀ v ∈ vs, NoCls P w n s v
  | [], _, _, _, x, _, v, hv => by cases x; cases hv
  | k :: ks, _, n, s, x, hn, v, hv => by
    rw [NestedKey.depthAll] at hn
    cases x with
    | cons x1 x2 =>
      cases hv with
      | head => exact noCls_key k _ n s x1 (Nat.le_trans (Nat.le_max_left _ _) hn)
      | tail _ hv => exact noCls_keys ks _ n s x2 (Nat.le_trans (Nat.le_max_right _ _) hn) v hv
end
variable {A : Around} {E : Value → Shared → Prop} {s : Shared}
structure KAt (h : Heap) (k : NestedKey) (a : Addr) : Prop where
  is : NestedIs h k (.ref a)
  low : k.depth ≤ 8
theorem hidden {k : NestedKey} {b : Addr} {Q : Bool → Shared → Prop} (hk : KAt s.heap k b) {ys : List Value} (hy : ∀ y ∈ ys, ∃ c j, y = Value.ref c ∧ KAt s.heap j c) (q : Q false s) : wpAny (model P w) A (searchCouldBeSeen (.ref b) ys) Q E s := by
  unfold searchCouldBeSeen
  refine wpAny_bind ?_
  refine wpAny_forIn_list _ (fun left r z => z = s ∧ r.1 = none ∧ ∀ y ∈ left, ∃ c j, y = Value.ref c ∧ KAt s.heap j c) _ ?_ ?_ _ _ ⟨rfl, rfl, hy⟩
  · rintro v left r z ⟨rfl, hr, al⟩
    obtain ⟨c, j, rfl, hc⟩ := al v List.mem_cons_self
    have next : ∀ y ∈ left, ∃ c j, y = Value.ref c ∧ KAt z.heap j c := fun u hu => al u (List.mem_cons_of_mem _ hu)
    dsimp only
    by_cases same : (b == c || (carriedByValue (.ref b) && carriedByValue (.ref c))) = true
    · exact wp_if_pos same (wpAny_pure ⟨rfl, rfl, next⟩)
    · refine wp_if_neg same ?_
      refine wpAny_bind ((nestedKind P w).quiet ⟨hk.is, hk.low⟩ ?_)
      simp only [Bool.not_true, Bool.false_eq_true, if_false]
      refine wpAny_bind ((nestedKind P w).quiet ⟨hc.is, hc.low⟩ ?_)
      simp only [Bool.not_true, Bool.false_eq_true, if_false]
      refine wpAny_bind (noCls_key k _ 8 _ hk.is hk.low _ _ _ ?_)
      simp only [Bool.false_eq_true, if_false]
      refine wpAny_bind (noCls_key j _ 8 _ hc.is hc.low _ _ _ ?_)
      exact wpAny_pure ⟨rfl, rfl, next⟩
  · rintro ⟨r1, r2⟩ z ⟨rfl, hr, _⟩
    obtain rfl : r1 = none := hr
    exact wpAny_pure q
end
end Pyr
set_option Elab.async false
set_option autoImplicit false
set_option linter.all false
set_option maxRecDepth 100000
set_option maxHeartbeats 4000000
namespace Pyr
open PySem PySem.Spec PyProof.Rows L2
def entN (w : World) (L : List (Addr × NestedKey)) : List (Int × Value) := L.map fun e => (e.2.hash w, Value.ref e.1)
structure SetN (P : Program) (w : World) (h : Heap) (a : Addr) (L : List (Addr × NestedKey)) (es : Array (Int × Value)) (ep : Nat) (t : SetTable) : Prop where
  here : ∃ o, h.get? a = some o ∧ o.ExactSet ∧ o.data = .set es ep t
  cont : es.toList = entN w L
  tab : TabOk t (L.map fun e => e.2.hash w)
  once : (L.map (·.2)).Nodup
  keys : ∀ e ∈ L, KAt h e.2 e.1
  made : w.params.followText "set-order" = true ∨ t.led = true
  less : L.length * 5 < t.mask * 3
  few : L.length < 64
section
variable {P : Program} {w : World} {A : Around} {E : Value → Shared → Prop} {s : Shared} {a : Addr} {L : List (Addr × NestedKey)} {es : Array (Int × Value)} {ep : Nat} {t : SetTable}
theorem ent_len (h : es.toList = entN w L) : es.size = L.length := by
  rw [← Array.length_toList, h, entN, List.length_map]
theorem ent_at (h : es.toList = entN w L) {i : Nat} {e : Addr × NestedKey} (hi : L[i]? = some e) : es[i]? = some (e.2.hash w, Value.ref e.1) := by
  rw [← Array.getElem?_toList, h, entN, List.getElem?_map, hi]
  rfl
theorem SetN.slots (R : SetN P w s.heap a L es ep t) : t.place.size = L.length := by
  rw [R.tab.sz, List.length_map]
theorem fits_of {n : Nat} (h1 : t.place.size = n) (h2 : t.dummies = #[]) (h3 : n ≤ t.mask) : t.fits n = true := by
  unfold SetTable.fits SetTable.fill
  rw [h2, Bool.and_eq_true, beq_iff_eq, decide_eq_true_eq]
  exact ⟨h1, by rw [h1]; exact h3⟩
theorem SetN.fit (R : SetN P w s.heap a L es ep t) : t.fits es.size = true := by
  have := R.less
  rw [ent_len R.cont]
  exact fits_of R.slots R.tab.dm (by omega)
theorem firm (h : MaskOk t.mask) : ¬ t.gaveWay = true := by
  unfold SetTable.gaveWay
  rw [mask_odd h]
  decide
def spot (t : SetTable) (h : Int) (c : Nat) : SetTable.Probe := nth t.mask (runAt t.mask (SetTable.bits h % (t.mask + 1)) (SetTable.bits h)) c
theorem spot_0 (h : Int) : t.probeStart h = spot t h 0 := rfl
theorem nth_spot (h : Int) (c q : Nat) : nth t.mask (spot t h c) q = spot t h (c + q) := (nth_add t.mask c _ q).symm
theorem nth_clear (m : Nat) : ∀ (n : Nat) (p : SetTable.Probe), p.dummy = none → (nth m p n).dummy = none
  | 0, _, h => h
  | n + 1, p, h => nth_clear m n (adv m p) (by unfold adv; split <;> exact h)
theorem SetN.hashAt (R : SetN P w s.heap a L es ep t) {i : Nat} {e : Addr × NestedKey} (hi : L[i]? = some e) : (fun i => (es[i]?.map (·.1)).getD 0) i = e.2.hash w := by
  show (es[i]?.map (·.1)).getD 0 = _
  rw [ent_at R.cont hi]
  rfl
theorem seek (R : SetN P w s.heap a L es ep t) {x : Addr} {k : NestedKey} (hx : KAt s.heap k x) (hu : A.units + 8 < cLine) (adding : Bool) {K : Nat} (near : K < 10 * SetTable.turns t.mask) (free : way t.mask (k.hash w) K ∉ t.place.toList)
    (taken : ∀ c, c < K → way t.mask (k.hash w) c ∈ t.place.toList) {Q : SetFound → Shared → Prop} (yes : ∀ r, k ∈ L.map (·.2) → (adding = false → r.isSome = true) → Q (.there r) s) (no : k ∉ L.map (·.2) → Q (.free (way t.mask (k.hash w) K) false) s) :
    ∀ (f c : Nat) (stand : Option SetTable.Probe), stand.getD (t.probeStart (k.hash w)) = spot t (k.hash w) c → c ≤ K → K < f + c →
      (∀ (i : Nat) e, L[i]? = some e → e.2 = k → ∃ d, c ≤ d ∧ d < K ∧ t.place.toList[i]? = some (way t.mask (k.hash w) d)) →
      wpAny (model P w) A (setSearchFrom a (.ref x) (k.hash w) adding f stand) Q E s := by
  intro f
  induction f with
  | zero => intro c _ _ h1 h2 _; omega
  | succ f again =>
    intro c stand st hc hf ahead
    obtain ⟨o, ho, _, hd⟩ := R.here
    have go := go_spec t R.tab.ris R.tab.dm (fun i => (es[i]?.map (·.1)).getD 0) (k.hash w) (10 * SetTable.turns t.mask) (K - c) (spot t (k.hash w) c) (nth_clear _ _ _ rfl) (by omega)
      (fun q hq => by rw [nth_spot]; exact taken (c + q) (by omega)) (by rw [nth_spot, show c + (K - c) = K by omega]; exact free)
    rw [setSearchFrom_succ]
    refine wpAny_bind (wpAny_setState_of ho hd R.fit ?_)
    dsimp only
    refine wp_if_neg (firm R.tab.mok) ?_
    try refine wpAny_bind (wpAny_pure ?_)
    have pr : t.probe (fun i => (es[i]?.map (·.1)).getD 0) (k.hash w) (stand.getD (t.probeStart (k.hash w))) = SetTable.probe.go t (fun i => (es[i]?.map (·.1)).getD 0) (k.hash w) (10 * SetTable.turns t.mask) (spot t (k.hash w) c) := by rw [st]; rfl
    rcases go with ⟨q, i, hq, hi, hh, before, pg⟩ | ⟨before, pg⟩
    · rw [pr, pg, nth_spot, nth_spot]
      rw [nth_spot] at hi
      dsimp only
      have il : i < L.length := by
        have h1 := (List.getElem?_eq_some_iff.mp hi).1
        rw [Array.length_toList, R.slots] at h1
        exact h1
      obtain ⟨e, he⟩ : ∃ e, L[i]? = some e := ⟨_, List.getElem?_eq_getElem il⟩
      have em := List.mem_of_getElem? he
      have ek := R.keys e em
      have behind : wpAny (model P w) A (searchRest a (.ref x) (k.hash w) adding f es t (spot t (k.hash w) (c + q)).j i (spot t (k.hash w) (c + (q + 1)))) Q E s := by
        unfold searchRest
        rw [ent_at R.cont he]
        dsimp only
        refine wpAny_bind (wpAny_holding ((nestedKind P w).eqBool (x := e.2) (y := k) hu ⟨ek.is, ek.low⟩ ⟨hx.is, hx.low⟩ ?_))
        refine wpAny_bind (wpAny_setState_of ho hd R.fit ?_)
        dsimp only
        have sl : t.slot (spot t (k.hash w) (c + q)).j = .live i := slot_live R.tab.ris hi
        by_cases kk : e.2 = k
        · have mem : k ∈ L.map (·.2) := List.mem_map.mpr ⟨e, em, kk⟩
          cases adding with
          | true =>
            refine wp_if_pos (by simp [kk]) ?_
            exact wpAny_pure (yes none mem (fun z => nomatch z))
          | false =>
            refine wp_if_neg (by simp) ?_
            try refine wpAny_bind (wpAny_pure ?_)
            rw [sameMem]
            dsimp only
            simp only [if_true, sl, ent_at R.cont he]
            refine wpAny_bind (wpAny_isSame_ref_self (wpAny_bind (wpAny_pure ?_)))
            simp only [if_true]
            refine wp_if_pos (by simp [kk]) ?_
            exact wpAny_pure (yes (some i) mem fun _ => rfl)
        · refine wp_if_neg (by simp [kk]) ?_
          try refine wpAny_bind (wpAny_pure ?_)
          rw [sameMem]
          dsimp only
          simp only [if_true, sl, ent_at R.cont he]
          refine wpAny_bind (wpAny_isSame_ref_self (wpAny_bind (wpAny_pure ?_)))
          simp only [if_true]
          refine wp_if_neg (by simp [kk]) ?_
          refine again (c + (q + 1)) _ rfl (by omega) (by omega) fun i0 e0 h0 k0 => ?_
          obtain ⟨d, d1, d2, d3⟩ := ahead i0 e0 h0 k0
          refine ⟨d, ?_, d2, d3⟩
          have hd0 : ¬ d < c + q := fun z => before (d - c) i0 (by omega) (by rw [nth_spot, show c + (d - c) = d by omega]; exact d3) ((R.hashAt h0).trans (by rw [k0]))
          have hd1 : d ≠ c + q := fun z => by
            rw [z] at d3
            have s0 : t.slot (spot t (k.hash w) (c + q)).j = .live i0 := slot_live R.tab.ris d3
            rw [sl] at s0
            injection s0 with s0
            rw [← s0, he] at h0
            exact kk ((congrArg Prod.snd (Option.some.inj h0)).trans k0)
          omega
      by_cases led : t.led = true
      · refine wp_if_neg (by simp [led]) ?_
        try refine wpAny_bind (wpAny_pure ?_)
        exact behind
      · refine wp_if_pos (by simp [led]) ?_
        refine wpAny_bind (hidden hx (fun y hy => ?_) ?_)
        · obtain ⟨z, hz, ez⟩ := List.mem_map.mp hy
          have hz2 : z ∈ es.toList := by
            have : z ∈ es ∧ z.1 = k.hash w := by simpa using hz
            simpa using this.1
          rw [R.cont] at hz2
          obtain ⟨e2, he2, eq2⟩ := List.mem_map.mp hz2
          exact ⟨e2.1, e2.2, by rw [← ez, ← eq2], R.keys e2 he2⟩
        · refine wp_if_neg (by decide) ?_
          try refine wpAny_bind (wpAny_pure ?_)
          exact behind
    · rw [pr, pg, nth_spot, show c + (K - c) = K by omega]
      dsimp only
      refine wpAny_pure (no fun hm => ?_)
      obtain ⟨e0, he0, k0⟩ := List.mem_map.mp hm
      obtain ⟨i0, hi0, eq0⟩ := List.getElem_of_mem he0
      have h00 : L[i0]? = some e0 := by rw [List.getElem?_eq_getElem hi0, eq0]
      obtain ⟨d, d1, d2, d3⟩ := ahead i0 e0 h00 k0
      exact before (d - c) i0 (by omega) (by rw [nth_spot, show c + (d - c) = d by omega]; exact d3) ((R.hashAt h00).trans (by rw [k0]))
theorem seek_all (R : SetN P w s.heap a L es ep t) {x : Addr} {k : NestedKey} (hx : KAt s.heap k x) (hu : A.units + 8 < cLine) (adding : Bool) {Q : SetFound → Shared → Prop} (yes : ∀ r, k ∈ L.map (·.2) → (adding = false → r.isSome = true) → Q (.there r) s)
    (no : ∀ K, k ∉ L.map (·.2) → way t.mask (k.hash w) K ∉ t.place.toList → (∀ c, c < K → way t.mask (k.hash w) c ∈ t.place.toList) → Q (.free (way t.mask (k.hash w) K) false) s) :
    wpAny (model P w) A (setSearch a (.ref x) (k.hash w) adding) Q E s := by
  have ls := R.less
  obtain ⟨K, near, free, taken⟩ := R.tab.first (by rw [List.length_map]; omega) (k.hash w)
  have small : K < 100000 := by
    have : SetTable.turns t.mask ≤ 142 := by
      unfold SetTable.turns
      rcases R.tab.mok with e | e | e <;> omega
    omega
  unfold setSearch
  refine seek R hx hu adding near free taken yes (fun hn => no K hn free taken) 100000 0 none (spot_0 _) (Nat.zero_le _) (by omega) fun i e hi hk => ?_
  have il : i < t.place.toList.length := by
    rw [Array.length_toList, R.slots]
    exact (List.getElem?_eq_some_iff.mp hi).1
  have hj := List.getElem?_eq_getElem il
  obtain ⟨c, hc, ec⟩ := R.tab.before free (h := k.hash w) (i := i) (by rw [List.getElem?_map, hi, ← hk]; rfl) hj
  exact ⟨c, Nat.zero_le _, hc, by rw [hj, ec]⟩
end
end Pyr
set_option Elab.async false
set_option autoImplicit false
set_option linter.all false
set_option maxRecDepth 100000
set_option maxHeartbeats 4000000
namespace Pyr
open PySem PySem.Spec PyProof.Rows L2
theorem all_slots {α : Type} (L : List α) : (List.range L.length).filterMap (fun i => L[i]?) = L := by
  have e : (List.range L.length).map (fun i => L[i]?) = L.map some := by
    refine List.ext_getElem? fun i => ?_
    rw [List.getElem?_map, List.getElem?_map]
    by_cases h : i < L.length
    · rw [List.getElem?_range h, List.getElem?_eq_getElem h]
      simp [List.getElem?_eq_getElem h]
    · rw [List.getElem?_eq_none (Nat.le_of_not_lt h), List.getElem?_eq_none (by rw [List.length_range]; exact Nat.le_of_not_lt h)]
      rfl
  have e2 := congrArg (List.filterMap id) e
  rw [List.filterMap_map, List.filterMap_map] at e2
  simpa using e2
section
variable {P : Program} {w : World} {A : Around} {E : Value → Shared → Prop} {s : Shared} {a : Addr} {L : List (Addr × NestedKey)} {es : Array (Int × Value)} {ep : Nat} {t : SetTable}
theorem KAt.past {h h' : Heap} {k : NestedKey} {b : Addr} (x : KAt h k b) {o : Obj} (ho : h.get? a = some o) (hd : o.data = .set es ep t) (hs : Heap.SameBut a h h') : KAt h' k b :=
  ⟨NestedIs.at (fun c u vs n hc hu => by
    refine (hs.2 c fun z => ?_).trans hc
    rw [z, ho] at hc
    cases hc
    rw [hd] at hu
    cases hu) k _ x.is, x.low⟩
theorem KAt.keep {h h' : Heap} {k : NestedKey} {b : Addr} (x : KAt h k b) (kp : ∀ c o, h.get? c = some o → h'.get? c = some o) : KAt h' k b :=
  ⟨NestedIs.at (fun c u _ _ hc _ => kp c u hc) k _ x.is, x.low⟩
theorem ent_pick (hc : es.toList = entN w L) (l : List Nat) : l.filterMap (fun i => es[i]?) = entN w (l.filterMap fun i => L[i]?) := by
  unfold entN
  rw [List.map_filterMap]
  congr 1
  funext i
  rw [← Array.getElem?_toList, hc, entN, List.getElem?_map]
theorem hash_pick (hc : es.toList = entN w L) : ∀ l : List Nat, (∀ i ∈ l, i < L.length) → ((l.filterMap fun i => L[i]?).map fun e => e.2.hash w) = l.map fun i => (es.map (·.1)).getD i 0
  | [], _ => rfl
  | i :: l, h => by
    have hi := h i List.mem_cons_self
    have g : L[i]? = some L[i] := List.getElem?_eq_getElem hi
    have e : (es.map (·.1))[i]? = some ((L[i]).2.hash w) := by
      rw [Array.getElem?_map, ent_at hc g]
      rfl
    rw [List.filterMap_cons_some g, List.map_cons, List.map_cons, hash_pick hc l fun j hj => h j (List.mem_cons_of_mem _ hj)]
    congr 1
    simp [Array.getD_eq_getD_getElem?, e]
theorem ent_in (hc : es.toList = entN w L) (p : Nat) (x : Addr) (k : NestedKey) : (SetTable.insertAt es p (k.hash w, Value.ref x)).toList = entN w (L.take p ++ (x, k) :: L.drop p) := by
  rw [SetTable.toList_insertAt, hc]
  simp [entN, List.map_take, List.map_drop]
theorem spread {o : Obj} (ho : s.heap.get? a = some o) (hex : o.ExactSet) (hd : o.data = .set es ep t) (hc : es.toList = entN w L) (hp : t.place.size = L.length) (hdm : t.dummies = #[]) (hm : L.length ≤ t.mask) (once : (L.map (·.2)).Nodup) (keys : ∀ e ∈ L, KAt s.heap e.2 e.1)
    (made : w.params.followText "set-order" = true ∨ t.led = true) (few : L.length < 64) {wanted M : Nat} (hw : SetTable.sizeAbove wanted = M + 1) (hM : MaskOk M) (hn : L.length * 5 < M * 3) {Q : Unit → Shared → Prop}
    (q : ∀ h' L' es' ep' t', Heap.SameBut a s.heap h' → SetN P w h' a L' es' ep' t' → L'.Perm L → Q () { s with heap := h' }) : wpAny (model P w) A (setRelay a wanted) Q E s := by
  have sz := ent_len hc
  have M2 : M ≤ 127 := by rcases hM with e | e | e <;> omega
  obtain ⟨t2, order, e, pm, T, em, el, _, _⟩ := relaid_ok t (hs := es.map (·.1)) (wanted := wanted) (by rw [hw]; exact Nat.add_sub_cancel M 1) hM (by rw [Array.size_map, sz]; omega)
  rw [Array.size_map, sz] at pm
  have inr : ∀ i ∈ order.toList, i < L.length := fun i hi => List.mem_range.mp (pm.mem_iff.mp hi)
  rw [← hash_pick hc order.toList inr] at T
  have c2 : (order.filterMap (es[·]?)).toList = entN w (order.toList.filterMap fun i => L[i]?) := by
    rw [← ent_pick hc]
    simp
  have pm2 : (order.toList.filterMap fun i => L[i]?).Perm L := by
    have := pm.filterMap fun i => L[i]?
    rwa [all_slots] at this
  generalize (order.toList.filterMap fun i => L[i]?) = L2 at T c2 pm2
  have z2 := ent_len c2
  rw [pm2.length_eq] at z2
  rw [setRelay_eq]
  refine wpAny_bind (wpAny_setState_of ho hd (by rw [sz]; exact fits_of hp hdm hm) ?_)
  dsimp only
  refine wp_if_neg (by rw [hw, sizeLine_eq]; omega) ?_
  try refine wpAny_bind (wpAny_pure ?_)
  rw [e]
  dsimp only
  refine wpAny_bind ?_
  refine wp_if_neg (by rw [z2, sz]; simp) ?_
  try refine wpAny_bind (wpAny_pure ?_)
  refine wpAny_pure ?_
  dsimp only
  refine wpAny_storeSet_of ho hd ?_ (by rw [z2, sizeLine_eq]; omega)
  have sb : Heap.SameBut a s.heap (s.heap.update a (Obj.putSet (order.filterMap (es[·]?)) t2)) := Heap.SameBut.update ..
  refine q _ L2 _ (ep + 1) t2 sb ⟨⟨_, store_at ho hd, ⟨hex.1, hex.2.1, hex.2.2⟩, rfl⟩, c2, T, (pm2.map (·.2)).nodup_iff.mpr once, fun e he => (keys e (pm2.mem_iff.mp he)).past ho hd sb, by rw [el]; exact made, ?_, by rw [pm2.length_eq]; exact few⟩ pm2
  rw [pm2.length_eq, em]
  exact hn
theorem grown_at {n m : Nat} (h0 : n < 64) (hm : MaskOk m) (h1 : n * 5 < m * 3) (h2 : (n + 1) * 5 ≥ m * 3) (h3 : n + 1 < 64) : ∃ M, SetTable.sizeAbove (SetTable.grown (n + 1)) = M + 1 ∧ MaskOk M ∧ (n + 1) * 5 < M * 3 := by
  rcases hm with e | e | e
  · have : n = 4 := by omega
    subst this
    exact ⟨31, size_20, .inr (.inl rfl), by decide⟩
  · have : n = 18 := by omega
    subst this
    exact ⟨127, size_76, .inr (.inr rfl), by decide⟩
  · omega
theorem put_in (R : SetN P w s.heap a L es ep t) {x : Addr} {k : NestedKey} (hx : KAt s.heap k x) (hu : A.units + 8 < cLine) (room : L.length + 1 < 64) {Q : Bool → Shared → Prop}
    (q : ∀ b h' L' es' ep' t', Heap.SameBut a s.heap h' → SetN P w h' a L' es' ep' t' → (k ∈ L.map (·.2) → L' = L) → (k ∉ L.map (·.2) → L'.Perm ((x, k) :: L)) → Q b { s with heap := h' }) :
    wpAny (model P w) A (setAddHashed a (.ref x) (k.hash w)) Q E s := by
  obtain ⟨o, ho, hex, hd⟩ := R.here
  unfold setAddHashed
  refine wpAny_holding ?_
  rw [show (100000 : Nat) = 99999 + 1 from rfl, setAddHashedIn_succ]
  refine wpAny_bind (wpAny_setState_of ho hd R.fit ?_)
  dsimp only
  refine wp_if_neg (by simp [byScan, Value.scannable]) ?_
  try refine wpAny_bind (wpAny_pure ?_)
  refine wpAny_bind (seek_all R hx hu true (fun r hm _ => ?_) fun K hm free taken => ?_)
  · dsimp only
    exact wpAny_pure (q false s.heap L es ep t (Heap.SameBut.refl a s.heap) R (fun _ => rfl) fun z => absurd hm z)
  dsimp only
  refine wpAny_bind (wpAny_setState_of ho hd R.fit ?_)
  dsimp only
  obtain ⟨c1, _, T, c4, c5, _, _, _, c9⟩ := R.tab.put free taken
  generalize way t.mask (k.hash w) K = j at c1 T c4 c5 c9 ⊢
  generalize t.put j = pt at c1 T c4 c5 c9 ⊢
  obtain ⟨t1, p⟩ := pt
  dsimp only at c1 T c4 c5 c9 ⊢
  rw [← c1] at T
  rw [List.length_map] at c9
  have hc1 := ent_in (w := w) R.cont p x k
  have pm : (L.take p ++ (x, k) :: L.drop p).Perm ((x, k) :: L) := by
    have h := (List.perm_middle (a := (x, k)) (l₁ := L.take p) (l₂ := L.drop p))
    rwa [List.take_append_drop] at h
  have T1 : TabOk t1 ((L.take p ++ (x, k) :: L.drop p).map fun e => e.2.hash w) := by
    rw [List.map_append, List.map_cons, List.map_take, List.map_drop]
    exact T
  have hl : (L.take p ++ (x, k) :: L.drop p).length = L.length + 1 := pm.length_eq
  have hz := ent_len hc1
  generalize SetTable.insertAt es p (k.hash w, Value.ref x) = es1 at hc1 hz ⊢
  generalize L.take p ++ (x, k) :: L.drop p = L1 at pm T1 hl hc1 hz
  have once1 : (L1.map (·.2)).Nodup := (pm.map (·.2)).nodup_iff.mpr (List.nodup_cons.mpr ⟨hm, R.once⟩)
  have es0 := ent_len R.cont
  have less := R.less
  have rest : ∀ t2 : SetTable, t2.place = t1.place → t2.mask = t1.mask → t2.led = t1.led → t2.dummies = t1.dummies → t2.tooFull = t1.tooFull → TabOk t2 (L1.map fun e => e.2.hash w) →
      wpAny (model P w) A (do
        storeSet a es1 t2
        if !false && t2.tooFull then setRelay a (SetTable.grown (es.size + 1))
        return true) Q E s := by
    intro t2 e1 e2 e3 e4 e5 T2
    refine wpAny_bind (wpAny_storeSet_of ho hd ?_ (by rw [hz, hl, sizeLine_eq]; omega))
    have sb : Heap.SameBut a s.heap (s.heap.update a (Obj.putSet es1 t2)) := Heap.SameBut.update ..
    have ho1 := store_at (es' := es1) (t' := t2) ho hd
    generalize s.heap.update a (Obj.putSet es1 t2) = h1 at sb ho1 ⊢
    have keys1 : ∀ e ∈ L1, KAt h1 e.2 e.1 := fun e he => by
      rcases List.mem_cons.mp (pm.mem_iff.mp he) with z | z
      · rw [z]
        exact hx.past ho hd sb
      · exact (R.keys e z).past ho hd sb
    have made1 : w.params.followText "set-order" = true ∨ t2.led = true := by rw [e3, c5]; exact R.made
    have full : t2.tooFull = decide ((L.length + 1) * 5 ≥ t.mask * 3) := by
      have f : t2.fill = L.length + 1 := by
        rw [← c9]
        unfold SetTable.fill
        rw [e1, e4]
      unfold SetTable.tooFull
      rw [f, e2, c4]
    by_cases hf : t2.tooFull = true
    · first
        | (refine wpAny_bind ?_; refine wp_if_pos (by simp [hf]) ?_)
        | (refine wp_if_pos (by simp [hf]) ?_; refine wpAny_bind ?_)
      rw [full, decide_eq_true_eq] at hf
      obtain ⟨M, m1, m2, m3⟩ := grown_at R.few R.tab.mok less hf room
      refine spread (s := { s with heap := h1 }) (M := M) ho1 ⟨hex.1, hex.2.1, hex.2.2⟩ rfl hc1 (by have := T2.sz; rwa [List.length_map] at this) T2.dm ?_ once1 keys1 made1 (by rw [hl]; exact room) (by rw [es0]; exact m1) m2 (by rw [hl]; exact m3) fun h2 L2 es2 ep2 t2' sb2 R2 pm2 => ?_
      · rw [e2, c4, hl]
        rcases R.tab.mok with e | e | e <;> omega
      · exact wpAny_pure (q true h2 L2 es2 ep2 t2' (sb.trans sb2) R2 (fun z => absurd z hm) fun _ => pm2.trans pm)
    · first
        | refine wp_if_neg (by simp [hf]) ?_
        | (refine wpAny_bind ?_; refine wp_if_neg (by simp [hf]) ?_; refine wpAny_pure ?_)
      rw [full, decide_eq_true_eq] at hf
      refine wpAny_pure (q true h1 L1 es1 (ep + 1) t2 sb ⟨⟨_, ho1, ⟨hex.1, hex.2.1, hex.2.2⟩, rfl⟩, hc1, T2, once1, keys1, made1, ?_, by rw [hl]; exact room⟩ (fun z => absurd z hm) fun _ => pm)
      rw [hl, e2, c4]
      omega
  by_cases pl : t1.plain = true
  · first
      | (refine wpAny_bind ?_; refine wp_if_pos pl ?_; refine asked_key k _ 8 s hx.is hx.low _ _ _ fun b => ?_)
      | refine wp_if_pos pl (wpAny_bind (asked_key k _ 8 s hx.is hx.low _ _ _ fun b => ?_))
    cases b
    · exact rest { t1 with plain := false } rfl rfl rfl rfl rfl ⟨T1.ris, T1.dm, T1.sz, T1.mok, T1.bd, T1.reach⟩
    · exact rest t1 rfl rfl rfl rfl rfl T1
  · first
      | (refine wpAny_bind ?_; refine wp_if_neg pl ?_; refine wpAny_pure ?_)
      | refine wp_if_neg pl (wpAny_bind (wpAny_pure ?_))
    exact rest t1 rfl rfl rfl rfl rfl T1
end
end Pyr
set_option Elab.async false
set_option autoImplicit false
set_option linter.all false
set_option maxRecDepth 100000
set_option maxHeartbeats 4000000
namespace Pyr
open PySem PySem.Spec PyProof.Rows L2 Evl
abbrev D := PyData
mutual
def keyB : D → Bool
  | .int _ => true
  | .str _ => true
  | .tuple ds => keysB ds
  | _ => false
def keysB : List D → Bool
  | [] => true
  | d :: ds => keyB d && keysB ds
end
mutual

def nk : D → NestedKey
  | .int i => .num i
  | .str x => .text x
  | .tuple ds => .tup (nks ds)
  | _ => .none
def nks : List D → List NestedKey
  | [] => []
  | d :: ds => nk d :: nks ds
end
mutual
theorem nk_inj : ∀ x y : D, keyB x = true → keyB y = true → nk x = nk y → x = y
  | .int i, y, _, hy, e => by cases y <;> simp [nk, keyB] at e hy ⊢; exact e
  | .str i, y, _, hy, e => by cases y <;> simp [nk, keyB] at e hy ⊢; exact e
  | .tuple xs, y, hx, hy, e => by
    cases y <;> simp [nk, keyB] at e hy hx ⊢
    exact nks_inj xs _ hx hy e
  | .none, _, hx, _, _ => by simp [keyB] at hx
  | .bool _, _, hx, _, _ => by simp [keyB] at hx
  | .list _, _, hx, _, _ => by simp [keyB] at hx
  | .dict _, _, hx, _, _ => by simp [keyB] at hx
theorem nks_inj : ∀ xs ys : List D, keysB xs = true → keysB ys = true → nks xs = nks ys → xs = ys
  | [], [], _, _, _ => rfl
  | [], _ :: _, _, _, e => by simp [nks] at e
  | _ :: _, [], _, _, e => by simp [nks] at e
  | x :: xs, y :: ys, hx, hy, e => by
    simp only [nks, keysB, Bool.and_eq_true, List.cons.injEq] at e hx hy
    rw [nk_inj x y hx.1 hy.1 e.1, nks_inj xs ys hx.2 hy.2 e.2]
end
mutual
theorem nk_depth : ∀ x : D, (nk x).depth ≤ x.depth
  | .int i => Nat.zero_le _
  | .str i => Nat.zero_le _
  | .none => Nat.zero_le _
  | .bool _ => Nat.zero_le _
  | .list _ => Nat.zero_le _
  | .dict _ => Nat.zero_le _
  | .tuple xs => by
    have := nks_depth xs
    simp only [nk, NestedKey.depth, PyData.depth]
    omega
theorem nks_depth : ∀ xs : List D, NestedKey.depthAll (nks xs) ≤ PyData.depthAll xs
  | [] => Nat.zero_le _
  | x :: xs => by
    have h1 := nk_depth x
    have h2 := nks_depth xs
    simp only [nks, NestedKey.depthAll, PyData.depthAll]
    omega
end
theorem sub_len {α : Type} [DecidableEq α] : ∀ (l m : List α), l.Nodup → (∀ x ∈ l, x ∈ m) → l.length ≤ m.length
  | [], _, _, _ => Nat.zero_le _
  | x :: l, m, hn, h => by
    obtain ⟨h1, h2⟩ := List.nodup_cons.mp hn
    have hx := h x List.mem_cons_self
    have ih := sub_len l (m.erase x) h2 fun y hy => (List.mem_erase_of_ne fun e => h1 (by rw [← e]; exact hy)).mpr (h y (List.mem_cons_of_mem _ hy))
    rw [List.length_erase_of_mem hx] at ih
    have := List.length_pos_of_mem hx
    simp only [List.length_cons]
    omega
structure KeyS (P : Program) (w : World) (h : Heap) (a : Addr) (ps : List (Addr × NestedKey)) : Prop where
  ex : ∃ (L : List (Addr × NestedKey)) (es : Array (Int × Value)) (ep : Nat) (t : SetTable), (∃ o, h.get? a = some o ∧ o.ExactSet ∧ o.data = .set es ep t) ∧ es.toList = entN w L ∧ TabOk t (L.map fun e => e.2.hash w) ∧ (L.map (·.2)).Nodup ∧
    (w.params.followText "set-order" = true ∨ t.led = true) ∧ L.length * 5 < t.mask * 3 ∧ L.length < 64 ∧ (∀ e ∈ L, e ∈ ps) ∧ ∀ e ∈ ps, e.2 ∈ L.map (·.2)
section
variable {P : Program} {w : World} {h h' : Heap} {a : Addr} {ps : List (Addr × NestedKey)}
theorem KeyS.keep (x : KeyS P w h a ps) (k : ∀ o, h.get? a = some o → h'.get? a = some o) : KeyS P w h' a ps := by
  obtain ⟨L, es, ep, t, ⟨o, ho, q⟩, r⟩ := x.ex
  exact ⟨L, es, ep, t, ⟨o, k o ho, q⟩, r⟩
theorem KeyS.full (x : KeyS P w h a ps) (k : ∀ e ∈ ps, KAt h e.2 e.1) : ∃ L es ep t, SetN P w h a L es ep t ∧ (∀ e ∈ L, e ∈ ps) ∧ ∀ e ∈ ps, e.2 ∈ L.map (·.2) := by
  obtain ⟨L, es, ep, t, q1, q2, q3, q4, q5, q6, q7, q8, q9⟩ := x.ex
  exact ⟨L, es, ep, t, ⟨q1, q2, q3, q4, fun e he => k e (q8 e he), q5, q6, q7⟩, q8, q9⟩
theorem SetN.bare {L : List (Addr × NestedKey)} {es : Array (Int × Value)} {ep : Nat} {t : SetTable} (R : SetN P w h a L es ep t) (h1 : ∀ e ∈ L, e ∈ ps) (h2 : ∀ e ∈ ps, e.2 ∈ L.map (·.2)) : KeyS P w h a ps :=
  ⟨L, es, ep, t, R.here, R.cont, R.tab, R.once, R.made, R.less, R.few, h1, h2⟩
theorem keyS_fresh (w : World) (h : Heap) : KeyS P w (h.push { cls := .type "set", dict := none, data := .set #[] 0 (.fresh 0 0 (!w.params.followText "set-order")) }) h.objs.size [] := by
  refine ⟨[], #[], 0, _, ⟨_, Heap.get?_push_size _ rfl, ⟨rfl, rfl, rfl⟩, rfl⟩, rfl, ⟨List.Pairwise.nil, rfl, rfl, .inl rfl, fun x hx => (by cases hx), fun i k j hi => (by simp at hi)⟩, List.nodup_nil, ?_, ?_, by decide, fun e he => (by cases he), fun e he => (by cases he)⟩
  · show _ ∨ (!w.params.followText "set-order") = true
    cases w.params.followText "set-order"
    · exact .inr rfl
    · exact .inl rfl
  · show 0 * 5 < 7 * 3
    decide
def keyO (P : Program) (w : World) (a : Addr) (ps : List (Addr × NestedKey)) : HO := .ext fun h => KeyS P w h a ps
theorem keyO_ok {H : Hp} (x : KeyS P w h a ps) : ObjOk P w H h a (keyO P w a ps) := by
  obtain ⟨L, es, ep, t, ⟨o, ho, q⟩, r⟩ := id x.ex
  exact ⟨x, ⟨o, ho⟩, fun h1 h2 z k => KeyS.keep z k⟩
variable {A : Around} {E : Value → Shared → Prop} {s : Shared}
end
end Pyr
set_option Elab.async false
set_option autoImplicit false
set_option linter.all false
set_option maxRecDepth 100000
set_option maxHeartbeats 4000000
namespace Pyr
open PySem PySem.Spec PyProof.Rows L2
section
variable {P : Program} {w : World} {A : Around} {E : Value → Shared → Prop} {s : Shared} {a : Addr} {ps : List (Addr × NestedKey)}
theorem KeyS.ty (S : KeyS P w s.heap a ps) : s.TypeIs (.ref a) "set" := by
  obtain ⟨_, _, _, _, ⟨o, ho, hc, _⟩, _⟩ := S.ex
  exact ⟨o, ho, hc.1⟩
theorem setAdd_in {x : Addr} {k : NestedKey} {Q : Bool → Shared → Prop} (S : KeyS P w s.heap a ps) (hp : ∀ e ∈ ps, KAt s.heap e.2 e.1) (hx : KAt s.heap k x) (hu : A.units + 30 < cLine) (room : ps.length + 1 < 64)
    (q : ∀ b g tk, s.toks ≤ tk → Heap.SameBut a s.heap g → KeyS P w g a (ps ++ [(x, k)]) → Q b { s with heap := g, toks := tk }) : wpAny (model P w) A (setAdd a (.ref x)) Q E s := by
  obtain ⟨L, es, ep, t, R, sub, all⟩ := S.full hp
  have few : L.length ≤ ps.length := sub_len L ps (nodup_of_map R.once) sub
  have lo := hx.low
  unfold setAdd
  refine wpAny_holding ?_
  refine wpAny_bind (pyHash_key k _ _ _ _ hx.is (by omega) ?_)
  refine put_in (s := { s with toks := s.toks + k.draws }) R hx (by omega) (by omega) fun b g L2 es2 ep2 t2 sb R2 old new => q b g _ (Nat.le_add_right _ _) sb (R2.bare ?_ ?_)
  · intro e he
    by_cases hm : k ∈ L.map (·.2)
    · rw [old hm] at he
      exact List.mem_append_left _ (sub e he)
    · rcases List.mem_cons.mp ((new hm).mem_iff.mp he) with z | z
      · rw [z]
        exact List.mem_append_right _ List.mem_cons_self
      · exact List.mem_append_left _ (sub e z)
  · intro e he
    have tail : ∀ e ∈ L.map (·.2), e ∈ L2.map (·.2) := fun e he => by
      by_cases hm : k ∈ L.map (·.2)
      · rw [old hm]
        exact he
      · exact ((new hm).map (·.2)).mem_iff.mpr (List.mem_cons_of_mem _ he)
    rcases List.mem_append.mp he with z | z
    · exact tail _ (all e z)
    · rw [List.mem_singleton.mp z]
      by_cases hm : k ∈ L.map (·.2)
      · exact tail _ hm
      · exact ((new hm).map (·.2)).mem_iff.mpr List.mem_cons_self
theorem found {x : Addr} {k : NestedKey} {Q : Bool → Shared → Prop} (S : KeyS P w s.heap a ps) (hp : ∀ e ∈ ps, KAt s.heap e.2 e.1) (hx : KAt s.heap k x) (hu : A.units + 30 < cLine) (q : ∀ tk, Q (decide (k ∈ ps.map (·.2))) { s with toks := tk }) :
    wpAny (model P w) A (setContains a (.ref x)) Q E s := by
  obtain ⟨L, es, ep, t, R, sub, all⟩ := S.full hp
  have lo := hx.low
  have same : k ∈ L.map (·.2) ↔ k ∈ ps.map (·.2) := by
    constructor
    · intro h
      obtain ⟨e, he, ee⟩ := List.mem_map.mp h
      exact List.mem_map.mpr ⟨e, sub e he, ee⟩
    · intro h
      obtain ⟨e, he, ee⟩ := List.mem_map.mp h
      rw [← ee]
      exact all e he
  obtain ⟨o, ho, hex, hd⟩ := R.here
  unfold setContains
  refine wpAny_holding ?_
  refine wpAny_bind (pyHash_key k _ _ _ _ hx.is (by omega) ?_)
  unfold setFind
  rw [show (100000 : Nat) = 99999 + 1 from rfl]
  unfold setFindIn
  refine wpAny_bind (wpAny_bind (wpAny_setState_of (s := { s with toks := s.toks + k.draws }) ho hd R.fit ?_))
  dsimp only
  refine wp_if_neg (by simp [byScan, Value.scannable]) ?_
  try refine wpAny_bind (wpAny_pure ?_)
  refine wpAny_bind (seek_all (s := { s with toks := s.toks + k.draws }) R hx (by omega) false (fun r hm hr => ?_) fun K hm free taken => ?_)
  · dsimp only
    refine wpAny_pure (wpAny_pure ?_)
    have := q (s.toks + k.draws)
    rw [decide_eq_true (same.mp hm)] at this
    rw [hr rfl]
    exact this
  · dsimp only
    refine wpAny_pure (wpAny_pure ?_)
    have := q (s.toks + k.draws)
    rw [decide_eq_false fun z => hm (same.mpr z)] at this
    exact this
theorem in_keys {neg : Bool} {x : Addr} {k : NestedKey} {Q : Value → Shared → Prop} (S : KeyS P w s.heap a ps) (hp : ∀ e ∈ ps, KAt s.heap e.2 e.1) (hx : KAt s.heap k x) (hu : A.units + 40 < cLine) (q : ∀ tk, Q (.bool (neg != decide (k ∈ ps.map (·.2)))) { s with toks := tk }) :
    wpAny (model P w) A (compareOp (if neg then .NotIn else .In) (.ref x) (.ref a)) Q E s := by
  have ask : ∀ Q' : Bool → Shared → Prop, (∀ tk, Q' (decide (k ∈ ps.map (·.2))) { s with toks := tk }) → wpAny (model P w) A (contains (.ref a) (.ref x)) Q' E s := by
    intro Q' q'
    unfold contains
    try with_reducible refine wpAny_holding ?_
    refine wpAny_bind (wpAny_specialOf S.ty PySem.F.slot_set_contains.lookup ?_)
    show wpAny _ _ (if (some (Value.builtin "set.__contains__") == some Value.none) = true then _ else _) _ E s
    rw [if_neg (by rw [beq_builtin_none]; exact Bool.false_ne_true)]
    refine wpAny_bind (wpAny_callSpecialUnlessNone?_slot (name := Str.ofString "__contains__") S.ty PySem.F.slot_set_contains (wpAny_call_entry PySem.F.slot_set_contains S.ty entry_set_contains ?_ (PySem.F.args_set_contains_2 _ _)))
    unfold Builtin.«frozenset.__contains__» Builtin.Frozenset.oneOther
    simp only [List.isEmpty_nil, bind_assoc]
    unfold Builtin.Frozenset.addrOf Builtin.Frozenset.withSetAsKey
    refine wpAny_bind (wpAny_pure ?_)
    try dsimp only
    refine wpAny_bind (wpAny_pure ?_)
    try dsimp only
    refine wpAny_bind (wpAny_tryCatch ?_)
    refine found S hp hx (by simp only [Around.in1_units]; omega) fun tk => ?_
    show wpAny _ _ (ret (Value.bool _)) _ _ _
    exact wpAny_pure ⟨_, rfl, wpAny_truthy_bool (q' tk)⟩
  cases neg with
  | true =>
    show wpAny _ _ (do return .bool (!(← contains (.ref a) (.ref x)))) Q E s
    refine wpAny_bind (ask _ fun tk => wpAny_pure ?_)
    have := q tk
    rwa [Bool.true_bne] at this
  | false =>
    show wpAny _ _ (do return .bool (← contains (.ref a) (.ref x))) Q E s
    refine wpAny_bind (ask _ fun tk => wpAny_pure ?_)
    have := q tk
    rwa [Bool.false_bne] at this
end
section
variable {prog : Program} {w : World} {A : Around} {R : Result → Shared → Prop} {I : Addr} {fp wr : List Addr} {G : Array GenState → Array GenState → Prop} {n : Nat} {Pi : Nat → Value → Prop} {St : Nat → Shared → Prop}
theorem upd_loopK (W : WalksS prog w A.in1 I fp wr G n Pi St) (S : Addr) (hS : S ∉ fp) (ps : List (Addr × NestedKey)) (hx : ps.length = n) (room : n < 64) (hu : A.units + 60 < cLine) (hv : ∀ i v, Pi i v → ∃ e, ps[i]? = some e ∧ v = .ref e.1)
    (h0 : Heap) (hk : ∀ e ∈ ps, KAt h0 e.2 e.1) (off : ∀ b o, h0.get? b = some o → b ≠ S ∧ b ∉ wr) :
    ∀ (m i : Nat) (s : Shared), i + m = n → St i s → (∀ b o, h0.get? b = some o → s.heap.get? b = some o) → KeyS prog w s.heap S (ps.take i) → (∀ s', Moved (S :: wr) G s s' → KeyS prog w s'.heap S ps → R (.ok (.ret .none)) s') → codeAny (model prog w) A (.builtin "set.update.loop" ⟨[.ref S, .ref I], []⟩) R s := by
  have out : S ∉ wr := fun z => hS (W.sub _ z)
  have more : ∀ b ∈ wr, b ∈ S :: wr := fun b z => List.mem_cons_of_mem _ z
  intro m
  induction m with
  | zero =>
    intro i s hi st kp hT q
    have ei : i = n := by omega
    subst ei
    rw [← hx, List.take_length] at hT
    refine codeAny_builtin PyProof.Rows.F.entry_set_update_loop ?_
    rw [Around.under_plainId PyProof.Rows.F.plain_set_update_loop _]
    show wpAny _ A.in1 (pyNext (.ref I) >>= _) _ _ s
    refine wpAny_bind (W.done s _ _ st fun u hm => ?_)
    show wpAny _ A.in1 (ret Value.none) _ _ u
    exact wpAny_pure (q u (hm.mono more) (hT.keep fun o ho => hm.heap S _ out ho))
  | succ m ih =>
    intro i s hi st kp hT q
    have lt : i < n := by omega
    refine codeAny_builtin PyProof.Rows.F.entry_set_update_loop ?_
    rw [Around.under_plainId PyProof.Rows.F.plain_set_update_loop _]
    show wpAny _ A.in1 (pyNext (.ref I) >>= _) _ _ s
    refine wpAny_bind (W.item i s _ _ lt st fun v u hp st2 hm => ?_)
    obtain ⟨e, he, rfl⟩ := hv i v hp
    have hT := hT.keep (h' := u.heap) fun o ho => hm.heap S _ out ho
    have ku : ∀ b o, h0.get? b = some o → u.heap.get? b = some o := fun b o hb => hm.heap b _ (off b o hb).2 (kp b o hb)
    have em := List.mem_of_getElem? he
    show wpAny _ A.in1 (holding [Value.ref e.1] (setAdd S (.ref e.1)) >>= _) _ _ u
    have il : i < ps.length := by omega
    refine wpAny_bind (wpAny_holding (setAdd_in (k := e.2) hT (fun f hf => (hk f (List.mem_of_mem_take hf)).keep ku) ((hk e em).keep ku) (by simp only [Around.in1_units]; omega) (by rw [List.length_take]; omega) fun b g tk tle same new => ?_))
    have nx : KeyS prog w g S (ps.take (i + 1)) := by
      have e1 : ps[i] = e := Option.some.inj ((List.getElem?_eq_getElem il).symm.trans he)
      rw [List.take_succ_eq_append_getElem il, e1]
      exact new
    refine wpAny_pure ⟨plainId_quiet PyProof.Rows.F.plain_set_update_loop _, ih (i + 1) _ (by omega) (W.frame _ u _ _ st2 tle fun b hb o e => ?_) (fun b o hb => (same.2 b (off b o hb).1).trans (ku b o hb)) nx fun u2 hm2 hT2 => ?_⟩
    · rw [same.2 b fun z : b = S => hS (by rw [← z]; exact hb)]
      exact e
    · refine q u2 (Moved.trans W.gtrans ((hm.mono more).then_heap tle fun b o hb e => ?_) hm2) hT2
      rw [same.2 b fun z : b = S => hb (by rw [z]; exact List.mem_cons_self)]
      exact e
end
section
variable {prog : Program} {w : World} {A : Around} {E : Value → Shared → Prop} {s : Shared}
theorem set_of_keys {l : Addr} {its : Array Value} {ps : List (Addr × NestedKey)} {Q : Value → Shared → Prop} (hh : A.handled = none) (hl : s.heap.IsList l its) (hi : its.toList = ps.map fun e => Value.ref e.1) (hk : ∀ e ∈ ps, KAt s.heap e.2 e.1) (room : ps.length < 64) (hu : A.units + 65 < cLine)
    (q : ∀ (g : Heap) (k : Nat), KeyS prog w g s.heap.objs.size ps → (∀ b o, s.heap.get? b = some o → g.get? b = some o) → Q (.ref s.heap.objs.size) { s with heap := g, toks := k }) :
    wpAny (model prog w) A (call (.type "set") [.ref l]) Q E s := by
  have hx : ps.length = its.size := by
    rw [← Array.length_toList, hi, List.length_map]
  obtain ⟨c, tl, hmro⟩ := PySem.F.called_set.mro
  have made := PySem.F.called_set.made
  have sub := PySem.F.called_set.sub
  refine wpAny_call (codeAny_of_tree ?_)
  show wpAny _ _ (callAny (.type "set") _) _ _ _
  refine wpAny_pure ⟨Code.quiet_builtin _ (by decide +kernel), codeAny_builtin PySem.F.entry_type_call ?_⟩
  rw [Around.under_plain (weight_type_call_type "set" [.ref l] []) rfl]
  have n1 := PySem.F.called_set.notType
  have n2 := PySem.F.called_set.canCreate
  have n3 := PySem.F.typeCall_set_1 (.ref l)
  repeat (any_goals (first | assumption | wp_step))
  refine codeAny_mono (code_set_led1 (.ref l) (E := E) (Q₁ := fun z u => z = .ref s.heap.objs.size ∧ u = { s with heap := s.heap.push { cls := .type "set", dict := none, data := .set #[] 0 (.fresh 0 0 (!w.params.followText "set-order")) } }) ⟨rfl, rfl⟩) fun r u hr => ?_
  cases r with
  | error e => exact hr
  | ok fl =>
    cases fl with
    | ret z =>
      obtain ⟨rfl, rfl⟩ := hr
      have new := keyS_fresh (P := prog) w s.heap
      generalize ob : ({ cls := .type "set", dict := none, data := .set #[] 0 (.fresh 0 0 (!w.params.followText "set-order")) } : Obj) = sob at new
      have here : (s.heap.push sob).get? s.heap.objs.size = some sob := Heap.get?_push_size _ (by rw [← ob]; rfl)
      have ty : Shared.TypeIs { s with heap := s.heap.push sob } (.ref s.heap.objs.size) "set" := ⟨_, here, by rw [← ob]⟩
      have n4 := PySem.F.called_set.init.lookup
      have n5 := PySem.F.called_set.init.bind (.ref s.heap.objs.size)
      repeat (any_goals (first | assumption | wp_step))
      refine codeAny_mono (codeAny_call_builtin (R := wants (fun r u => r = .none ∧ ∃ g k, u = { s with heap := g, toks := k } ∧ KeyS prog w g s.heap.objs.size ps ∧ (∀ b o, s.heap.get? b = some o → g.get? b = some o)) E) PySem.F.called_set.init.plain PySem.F.entry_set_init (check_set_init_1 ty ?_)) fun r2 u2 hr2 => ?_
      · have hl1 : (s.heap.push sob).IsList l its := hl.push _
        obtain ⟨ol, hol, hcl, nl, hdl⟩ := id hl1
        have tl : Shared.TypeIs { s with heap := s.heap.push sob } (.ref l) "list" := ⟨ol, hol, hcl⟩
        have lt : l < s.heap.objs.size := by
          obtain ⟨o, ho, _⟩ := hl
          exact Heap.lt_size ho
        have k1 := PySem.F.sub_list_set
        have k2 := PySem.F.sub_list_frozenset
        have k3 : (Value.type "list" == Value.type "dict") = false := by decide
        unfold Builtin.«set.__init__» noKeywords Builtin.Frozenset.updateFrom
        obtain ⟨c1, c2, c3, c4⟩ := ol
        simp only at hcl hdl
        subst hcl hdl ob
        generalize hP : pyIter = walk
        wp_walk
        subst hP
        refine wpAny_pyIter_list hl1 (wpAny_bind (wpAny_runValue ?_))
        have ne : l ≠ (s.heap.push { cls := .type "set", dict := none, data := .set #[] 0 (.fresh 0 0 (!w.params.followText "set-order")) }).objs.size := by
          rw [Heap.size_push]
          exact Nat.ne_of_lt (Nat.lt_succ_of_lt lt)
        have apart : s.heap.objs.size ∉ [(s.heap.push { cls := .type "set", dict := none, data := .set #[] 0 (.fresh 0 0 (!w.params.followText "set-order")) }).objs.size, l] := by
          rw [Heap.size_push]
          simp only [List.mem_cons, List.not_mem_nil, or_false, not_or]
          exact ⟨Nat.ne_of_lt (Nat.lt_succ_self _), Nat.ne_of_gt lt⟩
        have vals : ∀ (i : Nat) (v : Value), its[i]? = some v → ∃ e, ps[i]? = some e ∧ v = .ref e.1 := fun i v hv => by
          rw [← Array.getElem?_toList, hi, List.getElem?_map] at hv
          cases e : ps[i]? with
          | none => rw [e] at hv; cases hv
          | some e0 =>
            rw [e] at hv
            exact ⟨e0, rfl, (Option.some.inj hv).symm⟩
        have calm : A.in1.in1.in1.handled = none := by simp [hh]
        refine upd_loopK ((Walks.list calm _ l ne its).toS) s.heap.objs.size apart ps hx (by omega) (by simp only [Around.in1_units]; omega) vals s.heap hk (fun b o e => ?_) its.size 0 _ (by omega) ⟨⟨_, Heap.get?_push_size _ rfl, rfl, rfl⟩, hl1.push _⟩ (fun b o e => Heap.get?_push_of_some _ (Heap.get?_push_of_some _ e)) ?_ fun u hm hT => ?_
        · have b1 := Heap.lt_size e
          refine ⟨Nat.ne_of_lt b1, ?_⟩
          rw [Heap.size_push]
          simp only [List.mem_cons, List.not_mem_nil, or_false]
          exact Nat.ne_of_lt (Nat.lt_succ_of_lt b1)
        · exact new.keep fun o e => Heap.get?_push_of_some _ e
        · obtain ⟨g, x1, x2, k, x3⟩ := u
          have q1 : x1 = s.gens := hm.gens
          have q2 : x2 = s.drawn := hm.drawn
          have q3 : x3 = s.os := hm.os
          subst q1 q2 q3
          show wpAny _ _ _ _ _ _
          refine wpAny_pure ?_
          show wpAny _ _ (ret Value.none) _ _ _
          refine wpAny_pure ⟨rfl, g, k, rfl, hT, fun b o e => ?_⟩
          have hb := Heap.lt_size e
          refine hm.heap b o ?_ (Heap.get?_push_of_some _ (Heap.get?_push_of_some _ e))
          rw [Heap.size_push]
          simp only [List.mem_cons, List.not_mem_nil, or_false, not_or]
          exact ⟨Nat.ne_of_lt hb, Nat.ne_of_lt (Nat.lt_succ_of_lt hb)⟩
      · cases r2 with
        | error e => exact hr2
        | ok f2 =>
          cases f2 with
          | ret r =>
            obtain ⟨rfl, g, k, rfl, h1, h2⟩ := hr2
            repeat (any_goals (first | assumption | wp_step))
            exact q g k h1 h2
          | _ => exact hr2.elim
    | _ => exact hr.elim
end
end Pyr
set_option Elab.async false
set_option autoImplicit false
set_option linter.all false
set_option maxRecDepth 100000
set_option maxHeartbeats 4000000
namespace Pyr
open PySem PySem.Spec PyProof.Rows L2
def xsOf (ys : List (NestedKey × Addr × Addr)) : List (NestedKey × Addr × Value) := ys.map fun y => (y.1, y.2.1, Value.ref y.2.2)
structure DkS (P : Program) (w : World) (h : Heap) (a : Addr) (ys : List (NestedKey × Addr × Addr)) : Prop where
  ex : ∃ o es ep, h.get? a = some o ∧ o.ExactDict ∧ o.data = .dict es ep ∧ es.toList = (xsOf ys).map (entryOfKey (nestedKind P w)) ∧ ((xsOf ys).map (·.1)).Nodup
  sys : (a == sysModules) = false
section
variable {P : Program} {w : World} {h h' : Heap} {a : Addr} {ys : List (NestedKey × Addr × Addr)}
theorem DkS.keep (x : DkS P w h a ys) (k : ∀ o, h.get? a = some o → h'.get? a = some o) : DkS P w h' a ys := by
  obtain ⟨o, es, ep, ho, q⟩ := x.ex
  exact ⟨⟨o, es, ep, k o ho, q⟩, x.sys⟩
theorem DkS.full (x : DkS P w h a ys) (k : ∀ y ∈ ys, KAt h y.1 y.2.1) : h.DictOfH (nestedKind P w) a (xsOf ys) := by
  obtain ⟨o, es, ep, q1, q2, q3, q4, q5⟩ := x.ex
  refine ⟨o, es, ep, q1, q2, q3, q4, fun z hz => ?_, q5⟩
  obtain ⟨y, hy, rfl⟩ := List.mem_map.mp hz
  exact ⟨(k y hy).is, (k y hy).low⟩
theorem dk_bare (x : h.DictOfH (nestedKind P w) a (xsOf ys)) (s : (a == sysModules) = false) : DkS P w h a ys := by
  obtain ⟨o, es, ep, q1, q2, q3, q4, _, q5⟩ := x
  exact ⟨⟨o, es, ep, q1, q2, q3, q4, q5⟩, s⟩
def dkO (P : Program) (w : World) (a : Addr) (ys : List (NestedKey × Addr × Addr)) : HO := .ext fun h => DkS P w h a ys
theorem dkO_ok {H : Hp} (x : DkS P w h a ys) : ObjOk P w H h a (dkO P w a ys) := by
  obtain ⟨o, es, ep, ho, _⟩ := id x.ex
  exact ⟨x, ⟨o, ho⟩, fun h1 h2 z k => DkS.keep z k⟩
theorem at_some {k : NestedKey} {y : NestedKey × Addr × Addr} (nd : (ys.map (·.1)).Nodup) (hy : y ∈ ys) (e : y.1 = k) : atKey (xsOf ys) k = some (y.2.1, Value.ref y.2.2) := by
  obtain ⟨i, hi, ey⟩ := List.getElem_of_mem hy
  refine atKey_of_get (i := i) ?_ ?_
  · unfold xsOf
    rw [List.map_map]
    exact nd
  · unfold xsOf
    rw [List.getElem?_map, List.getElem?_eq_getElem hi, ey, ← e]
    rfl
theorem at_none {k : NestedKey} (hn : ∀ y ∈ ys, y.1 ≠ k) : atKey (xsOf ys) k = none := by
  refine atKey_none_of_get fun j p e => ?_
  unfold xsOf at e
  rw [List.getElem?_map] at e
  cases q : ys[j]? with
  | none => rw [q] at e; cases e
  | some y =>
    rw [q] at e
    have e : (y.1, y.2.1, Value.ref y.2.2) = (k, p) := Option.some.inj e
    exact hn y (List.mem_of_getElem? q) (congrArg Prod.fst e)
theorem DkS.nd (x : DkS P w h a ys) : (ys.map (·.1)).Nodup := by
  obtain ⟨o, es, ep, _, _, _, _, q⟩ := x.ex
  unfold xsOf at q
  rw [List.map_map] at q
  exact q
variable {A : Around} {E : Value → Shared → Prop} {s : Shared}
theorem dk_default {x b : Addr} {k : NestedKey} {Q : Value → Shared → Prop} (S : DkS P w s.heap a ys) (kk : ∀ y ∈ ys, KAt s.heap y.1 y.2.1) (hx : KAt s.heap k x) (hu : A.units + 40 < cLine) (len : ys.length ≤ 1000)
    (old : ∀ y ∈ ys, y.1 = k → ∀ tk, Q (.ref y.2.2) { s with toks := tk }) (new : (∀ y ∈ ys, y.1 ≠ k) → ∀ g tk, DkS P w g a (ys ++ [(k, x, b)]) → Heap.SameBut a s.heap g → Q (.ref b) { s with heap := g, toks := tk }) :
    wpAny (model P w) A (call (.builtin "dict.setdefault") [.ref a, .ref x, .ref b]) Q E s := by
  refine call_setdefault_heap (knd := nestedKind P w) (k := k) (xs := xsOf ys) (show A.in1.units + 8 < cLine by simp only [Around.in1_units]; omega) ⟨hx.is, hx.low⟩ S.sys (S.full kk) (fun p hp => ?_) (fun hn g D sb => ?_) ?_
  · by_cases hm : ∃ y ∈ ys, y.1 = k
    · obtain ⟨y, hy, e⟩ := hm
      rw [at_some S.nd hy e] at hp
      cases hp
      exact old y hy e _
    · rw [at_none fun y hy e => hm ⟨y, hy, e⟩] at hp
      cases hp
  · have none : ∀ y ∈ ys, y.1 ≠ k := fun y hy e => by rw [at_some S.nd hy e] at hn; cases hn
    refine new none g _ (dk_bare ?_ S.sys) sb
    rw [storedH_new hn] at D
    have e : xsOf ys ++ [(k, x, Value.ref b)] = xsOf (ys ++ [(k, x, b)]) := by unfold xsOf; rw [List.map_append]; rfl
    rw [← e]
    exact D
  · unfold xsOf
    rw [List.length_map, sizeLine_eq]
    omega
theorem dk_get {x : Addr} {k : NestedKey} {y : NestedKey × Addr × Addr} {Q : Value → Shared → Prop} (S : DkS P w s.heap a ys) (kk : ∀ y ∈ ys, KAt s.heap y.1 y.2.1) (hx : KAt s.heap k x) (hu : A.units + 40 < cLine) (hy : y ∈ ys) (e : y.1 = k) (q : ∀ tk, Q (.ref y.2.2) { s with toks := tk }) :
    wpAny (model P w) A (getItem (.ref a) (.ref x)) Q E s :=
  wpAny_getItem_heap (knd := nestedKind P w) (k := k) (show A.in1.units + 8 < cLine by simp only [Around.in1_units]; omega) ⟨hx.is, hx.low⟩ (S.full kk) (at_some S.nd hy e) (q _)
end
end Pyr
set_option Elab.async false
set_option linter.all false
set_option maxRecDepth 100000
set_option maxHeartbeats 1000000
namespace Pyr
open PySem PySem.Spec PyProof.Rows L2 Evl
abbrev Takes (X : L2.Cx) (W : L2.WX) : Prop := L2N.Takes X W
theorem passAt {X : L2.Cx} {W : L2.WX} (tk : Takes X W) (σ : L2.St) : L2.PassesAt (L2N.CX X.prog X.w) X σ (L2.WE W σ) := L2N.passAt tk σ
theorem takes_of {X : L2.Cx} (hs : X.stack = X.env :: X.outer) (hf : X.env.frame = some X.env.locals) (hex : X.ex = []) {E : L2.XK} {E₁ : Value → Shared → Prop}
    (hx : X.xe = fun e s' => wpAny (model X.prog X.w) X.A (leaving X.env e) (fun _ s'' => L2N.CX X.prog X.w X.outer X.H_0 X.s_0 E e s'') E₁ s') : Takes X (fun cls d _ H => E cls d H) := L2N.takes_of hs hf hex hx
theorem takes0 {X : L2.Cx} : Takes X (fun _ _ _ _ => False) := fun u s' x => by
  obtain ⟨_, _, _, _, _, _, _, _, _, _, _, _, _, _, _, _, w⟩ := x
  exact w.elim
def keyD : Key → D
  | .inl i => .int i
  | .inr x => .str x
abbrev ptD (ds : List D) : D := .dict [(.tuple [], .list ds)]
def ptB : List (D × D) → Bool
  | [(.tuple [], .list _)] => true
  | _ => false
mutual
inductive Rp (K : PySem.W.Frag) (G : Hp) : V → D → Prop
  | non : Rp K G .non .none
  | bl (b : Bool) : Rp K G (.bl b) (.bool b)
  | int (i : Int) : Rp K G (.int i) (.int i)
  | str (x : Str) : Rp K G (.str x) (.str x)
  | lst {a : Addr} {xs : List V} {ds : List D} : SqL K G a xs → Rps K G xs ds → Rp K G (.ref a) (.list ds)
  | tup {a : Addr} {xs : List V} {ds : List D} : SqT K G a xs → Rps K G xs ds → Rp K G (.ref a) (.tuple ds)
  | dic {a : Addr} {kvs : List (Key × V)} {es : List (D × D)} : G a = some (.dK kvs) → RpKv K G kvs es → Rp K G (.ref a) (.dict es)
  | ptu {a : Addr} {o : Obj} {xs : List V} {ds : List D} : G a = some (.frz o (.tup xs)) → o.dict = none → Rps K G xs ds → Rp K G (.ref a) (ptD ds)
inductive Rps (K : PySem.W.Frag) (G : Hp) : List V → List D → Prop
  | nil : Rps K G [] []
  | cons {v : V} {vs : List V} {d : D} {ds : List D} : Rp K G v d → Rps K G vs ds → Rps K G (v :: vs) (d :: ds)
inductive RpKv (K : PySem.W.Frag) (G : Hp) : List (Key × V) → List (D × D) → Prop
  | nil : RpKv K G [] []
  | cons {k : Key} {v : V} {kvs : List (Key × V)} {d : D} {es : List (D × D)} : Rp K G v d → RpKv K G kvs es → RpKv K G ((k, v) :: kvs) ((keyD k, d) :: es)
end
section
variable {K : PySem.W.Frag} {G G' : Hp}
mutual
theorem Rp.mono (e : Ex G G') : ∀ {v : V} {d : D}, Rp K G v d → Rp K G' v d
  | _, _, .non => .non
  | _, _, .bl b => .bl b
  | _, _, .int i => .int i
  | _, _, .str x => .str x
  | _, _, .lst h r => .lst (ex_l e h) (Rps.mono e r)
  | _, _, .tup h r => .tup (ex_t e h) (Rps.mono e r)
  | _, _, .dic h r => .dic (e _ _ h) (RpKv.mono e r)
  | _, _, .ptu h n r => .ptu (e _ _ h) n (Rps.mono e r)
theorem Rps.mono (e : Ex G G') : ∀ {vs : List V} {ds : List D}, Rps K G vs ds → Rps K G' vs ds
  | _, _, .nil => .nil
  | _, _, .cons h r => .cons (Rp.mono e h) (Rps.mono e r)
theorem RpKv.mono (e : Ex G G') : ∀ {vs : List (Key × V)} {ds : List (D × D)}, RpKv K G vs ds → RpKv K G' vs ds
  | _, _, .nil => .nil
  | _, _, .cons h r => .cons (Rp.mono e h) (RpKv.mono e r)
end
theorem RpKv.notPt {kvs : List (Key × V)} {es : List (D × D)} (r : RpKv K G kvs es) : ptB es = false := by
  cases r with
  | nil => rfl
  | cons h r =>
    rename_i k _ _ _ _
    cases k <;> rfl
theorem Rps.len : ∀ {vs : List V} {ds : List D}, Rps K G vs ds → vs.length = ds.length
  | _, _, .nil => rfl
  | _, _, .cons _ r => by rw [List.length_cons, List.length_cons, Rps.len r]
theorem Rps.app : ∀ {vs us : List V} {ds es : List D}, Rps K G vs ds → Rps K G us es → Rps K G (vs ++ us) (ds ++ es)
  | _, _, _, _, .nil, s => s
  | _, _, _, _, .cons h r, s => .cons h (Rps.app r s)
theorem Rps.at : ∀ {vs : List V} {ds : List D} {i : Nat} {d : D}, Rps K G vs ds → ds[i]? = some d → ∃ v, vs[i]? = some v ∧ Rp K G v d
  | _, _, _, _, .nil, h => by simp at h
  | _, _, 0, _, .cons h _, e => by
    simp at e
    subst e
    exact ⟨_, rfl, h⟩
  | _, _, i + 1, _, .cons _ r, e => by
    obtain ⟨v, h1, h2⟩ := Rps.at (i := i) r (by simpa using e)
    exact ⟨v, by simpa using h1, h2⟩
theorem Rps.cut : ∀ {vs : List V} {ds : List D} (n : Nat), Rps K G vs ds → Rps K G (vs.take n) (ds.take n)
  | _, _, 0, _ => .nil
  | _, _, _ + 1, .nil => .nil
  | _, _, n + 1, .cons h r => .cons h (Rps.cut n r)
theorem Rps.off : ∀ {vs : List V} {ds : List D} (n : Nat), Rps K G vs ds → Rps K G (vs.drop n) (ds.drop n)
  | _, _, 0, r => r
  | _, _, _ + 1, .nil => .nil
  | _, _, n + 1, .cons _ r => Rps.off n r
theorem Rps.put {v : V} {d : D} (h : Rp K G v d) : ∀ {vs : List V} {ds : List D} (i : Nat), Rps K G vs ds → Rps K G (vs.set i v) (ds.set i d)
  | _, _, _, .nil => .nil
  | _, _, 0, .cons _ r => .cons h r
  | _, _, i + 1, .cons q r => .cons q (Rps.put h i r)
end
mutual
def flatD : D → Bool
  | .list ds => flatsD ds
  | .tuple ds => flatsD ds
  | .dict _ => false
  | _ => true
def flatsD : List D → Bool
  | [] => true
  | d :: ds => flatD d && flatsD ds
end
section
variable {K : PySem.W.Frag} {G : Hp}
mutual
theorem Rp.dp : ∀ {v : V} {d : D}, Rp K G v d → flatD d = true → Dp K G v d
  | _, _, .non, _ => .non
  | _, _, .bl b, _ => .bl b
  | _, _, .int i, _ => .int i
  | _, _, .str x, _ => .str x
  | _, _, .lst h r, f => .lst h (Rps.dp r (by simpa [flatD] using f))
  | _, _, .tup h r, f => .tup h (Rps.dp r (by simpa [flatD] using f))
  | _, _, .dic _ _, f => by simp [flatD] at f
  | _, _, .ptu _ _ _, f => by simp [flatD] at f
theorem Rps.dp : ∀ {vs : List V} {ds : List D}, Rps K G vs ds → flatsD ds = true → DpAll K G vs ds
  | _, _, .nil, _ => .nil
  | _, _, .cons h r, f => by
    rw [flatsD, Bool.and_eq_true] at f
    exact .cons (Rp.dp h f.1) (Rps.dp r f.2)
end
end
inductive Res (α : Type) where
  | ok (a : α)
  | exc (c : Str) (fs : List (Str × D))
  | bad
  | alt (f : Nat → Res α)
def Res.bind {α β : Type} : Res α → (α → Res β) → Res β
  | .ok a, k => k a
  | .exc c fs, _ => .exc c fs
  | .bad, _ => .bad
  | .alt f, k => .alt fun i => (f i).bind k
def Res.map {α β : Type} (f : α → β) : Res α → Res β
  | .ok a => .ok (f a)
  | .exc c fs => .exc c fs
  | .bad => .bad
  | .alt g => .alt fun i => (g i).map f
def Res.Leaf {α : Type} : Res α → α → Prop
  | .ok a, x => a = x
  | .alt f, x => ∃ i, (f i).Leaf x
  | _, _ => False
abbrev En := List (Option D)
structure TabList where
  mk' ::
  l : List Addr
  P : Program
  w : World
  cs : List (Addr × Addr)
  ex : Option (Addr × Str × Option Addr)
abbrev TabList.mk (l : List Addr) (P : Program) (w : World) : TabList := TabList.mk' l P w [] none
abbrev TabList.more (TS : TabList) (b : Bool) (c P : Addr) : TabList := { TS with cs := match b with
  | true => (c, P) :: TS.cs
  | false => TS.cs }
instance : Membership Addr TabList := ⟨fun T a => a ∈ T.l⟩
def ddS (xs : List Str) : List Str := xs.foldl (fun acc x => if x ∈ acc then acc else acc ++ [x]) []
theorem ddS_snoc (xs : List Str) (x : Str) : ddS (xs ++ [x]) = if x ∈ ddS xs then ddS xs else ddS xs ++ [x] := by
  unfold ddS
  rw [List.foldl_append]
  rfl
theorem ddS_mem (xs : List Str) (x : Str) : x ∈ ddS xs ↔ x ∈ xs := by
  have h : ∀ (ys acc : List Str), x ∈ ys.foldl (fun acc x => if x ∈ acc then acc else acc ++ [x]) acc ↔ x ∈ acc ∨ x ∈ ys := by
    intro ys
    induction ys with
    | nil => simp
    | cons y ys ih =>
      intro acc
      rw [List.foldl_cons, ih]
      by_cases e : y ∈ acc
      · rw [if_pos e, List.mem_cons]
        constructor
        · rintro (h | h)
          · exact .inl h
          · exact .inr (.inr h)
        · rintro (h | rfl | h)
          · exact .inl h
          · exact .inl e
          · exact .inr h
      · rw [if_neg e, List.mem_append, List.mem_singleton, List.mem_cons, or_assoc]
  simpa [ddS] using h xs []
theorem ddS_le (xs : List Str) : (ddS xs).length ≤ xs.length := by
  have h : ∀ (ys acc : List Str), (ys.foldl (fun acc x => if x ∈ acc then acc else acc ++ [x]) acc).length ≤ acc.length + ys.length := by
    intro ys
    induction ys with
    | nil => simp
    | cons y ys ih =>
      intro acc
      rw [List.foldl_cons]
      refine Nat.le_trans (ih _) ?_
      rw [List.length_cons]
      split
      · omega
      · rw [List.length_append, List.length_singleton]
        omega
  simpa [ddS] using h xs []
def SetT (P : Program) (w : World) (h : Heap) (a : Addr) (xs : List Str) : Prop := ∃ n, n = (ddS xs).length ∧ h.SetOf (PySem.strKind P w) a (fun k => decide (k ∈ xs)) n
theorem setT_at {P : Program} {w : World} {h h' : Heap} {a : Addr} {xs : List Str} (z : SetT P w h a xs) (k : ∀ o, h.get? a = some o → h'.get? a = some o) : SetT P w h' a xs := by
  obtain ⟨n, hn, o, es, ep, t, ho, r⟩ := z
  exact ⟨n, hn, o, es, ep, t, k o ho, r⟩
inductive SetD (P : Program) (w : World) (h : Heap) (a : Addr) : List D → Prop
  | txt (xs : List Str) : SetT P w h a xs → SetD P w h a (xs.map .str)
theorem SetD.at {P : Program} {w : World} {h h' : Heap} {a : Addr} {ds : List D} (z : SetD P w h a ds) (k : ∀ o, h.get? a = some o → h'.get? a = some o) : SetD P w h' a ds := by
  cases z with
  | txt xs t => exact .txt xs (setT_at t k)
def setO (P : Program) (w : World) (a : Addr) (ds : List D) : HO := .ext fun h => SetD P w h a ds
def codeO (o : Obj) (c P : Addr) : HO := .frz o (.ext fun h => PySem.W.CodeHd h c P)
def isTb : HO → Bool
  | .tbl _ => true
  | .frz _ (.ext _) => true
  | _ => false
inductive TblOk (H : Hp) : Addr → Prop
  | mk (P : Addr) (ps : Array Value) (cf pf : Pos → Addr) (h : H P = some (.tbl ps)) (t : TriplesOk ps.toList)
      (n : ∀ p v, codeAmong p ps.toList = some v → v = .ref (cf p) ∧ ∃ o, H (cf p) = some (codeO o (cf p) (pf p)))
      (r : ∀ p v, codeAmong p ps.toList = some v → TblOk H (pf p)) : TblOk H P
section
variable {H H' : Hp} {P a : Addr} {o u : HO}
theorem TblOk.tab (x : TblOk H P) : ∃ ps : Array Value, H P = some (.tbl ps) ∧ TriplesOk ps.toList := by
  cases x with
  | mk _ ps cf pf h t n r => exact ⟨ps, h, t⟩
theorem TblOk.stay (x : TblOk H P) (k : ∀ a u, H a = some u → isTb u = true → H' a = some u) : TblOk H' P := by
  induction x with
  | mk P ps cf pf h t n r ih =>
    exact .mk P ps cf pf (k _ _ h rfl) t (fun p v e => let ⟨e1, o, e2⟩ := n p v e; ⟨e1, o, k _ _ e2 rfl⟩) ih
theorem TblOk.empty (h : H P = some (.tbl #[])) : TblOk H P := .mk P #[] (fun _ => P) (fun _ => P) h trivial (fun p v e => nomatch (show (none : Option Value) = some v from e)) fun p v e => nomatch (show (none : Option Value) = some v from e)
theorem TblOk.upd (x : TblOk H P) (h : H a = some u) (n : isTb u = false) : TblOk (L2.upd H a o) P := x.stay fun b w e m => by
  rw [upd_ne fun z => ?_]
  · exact e
  · rw [z, h] at e
    cases e
    rw [n] at m
    cases m
theorem TblOk.new (x : TblOk H P) (h : H a = none) : TblOk (L2.upd H a o) P := x.stay fun b w e _ => by
  rw [upd_ne (ne_of_none e h)]
  exact e
theorem codeAmong_app {p : Pos} {v : Value} (l m : List Value) (h : codeAmong p l = some v) (t : TriplesOk l) : codeAmong p (l ++ m) = some v := by
  fun_induction TriplesOk l with
  | case1 => cases h
  | case2 a t' b u' x rest ih =>
    simp only [List.cons_append, codeAmong] at h ⊢
    split at h
    · rename_i hc; rw [if_pos hc]; exact h
    · rename_i hc; rw [if_neg hc]; exact ih h t
  | case3 l h1 h2 => exact t.elim
theorem codeAmong_last {p : Pos} {v c : Value} {x y : Int} (l : List Value) (t : TriplesOk l) (h : codeAmong p (l ++ [rawInt x, rawInt y, c]) = some v) : codeAmong p l = some v ∨ v = c := by
  fun_induction TriplesOk l with
  | case1 =>
    simp only [List.nil_append, codeAmong, rawInt] at h
    split at h
    · exact .inr (Option.some.inj h).symm
    · cases h
  | case2 a t' b u' x rest ih =>
    simp only [List.cons_append, codeAmong] at h ⊢
    split at h
    · rename_i hc; rw [if_pos hc]; exact .inl h
    · rename_i hc; rw [if_neg hc]; exact ih t h
  | case3 l h1 h2 => exact t.elim
theorem TblOk.grow {ps : Array Value} {c' P' : Addr} {ob : Obj} {x y : Int} (hP : H P = some (.tbl ps)) (t : TriplesOk ps.toList) (k : ∀ a u, a ≠ P → H a = some u → H' a = some u) (hP2 : H' P = some (.tbl (ps ++ #[rawInt x, rawInt y, .ref c']))) (hc : H' c' = some (codeO ob c' P')) (hn : H' P' = some (.tbl #[])) {Q : Addr} (z : TblOk H Q) : TblOk H' Q := by
  have hl : (ps ++ #[rawInt x, rawInt y, Value.ref c']).toList = ps.toList ++ [rawInt x, rawInt y, .ref c'] := by simp
  induction z with
  | mk Q qs cf pf h tq n r ih =>
    by_cases e : Q = P
    · subst e
      rw [hP] at h
      cases h
      classical
      refine .mk Q _ (fun p => if (codeAmong p ps.toList).isSome then cf p else c') (fun p => if (codeAmong p ps.toList).isSome then pf p else P') hP2 (by rw [hl]; exact TriplesOk_snoc _ _ _ _ t) (fun p v e => ?_) fun p v e => ?_
      · rw [hl] at e
        cases old : codeAmong p ps.toList with
        | none =>
          rcases codeAmong_last _ t e with z | z
          · rw [old] at z
            cases z
          · exact ⟨z, ob, hc⟩
        | some w =>
          have e2 := codeAmong_app _ [rawInt x, rawInt y, Value.ref c'] old t
          rw [e] at e2
          cases e2
          obtain ⟨h1, o1, h2⟩ := n p v old
          refine ⟨h1, o1, ?_⟩
          show H' (cf p) = some (codeO o1 (cf p) (pf p))
          refine k _ _ (fun z => ?_) h2
          rw [z, hP] at h2
          cases h2
      · cases old : codeAmong p ps.toList with
        | none => exact TblOk.empty hn
        | some w => exact ih p w old
    · exact .mk Q qs cf pf (k _ _ e h) tq (fun p v e => let ⟨e1, o, e2⟩ := n p v e; ⟨e1, o, k _ _ (fun z => by rw [z, hP] at e2; cases e2) e2⟩) ih
end
structure TbOk (TS : TabList) (H : Hp) : Prop where
  all : ∀ P ∈ TS, TblOk H P
  cs : ∀ p ∈ TS.cs, (∃ o, H p.1 = some (codeO o p.1 p.2)) ∧ TblOk H p.2
structure ExT (H H' : Hp) : Prop where
  same : ∀ a o, H a = some o → (∀ ps, o ≠ .tbl ps) → H' a = some o
  old : ∀ a, H' a = none → H a = none
  tb : ∀ P, TblOk H P → TblOk H' P
theorem ExT.refl (H : Hp) : ExT H H := ⟨fun _ _ h _ => h, fun _ h => h, fun _ h => h⟩
theorem ExT.trans {H H1 H2 : Hp} (a : ExT H H1) (b : ExT H1 H2) : ExT H H2 := ⟨fun x o h n => b.same x o (a.same x o h n) n, fun x h => a.old x (b.old x h), fun P h => b.tb P (a.tb P h)⟩
theorem ExT.of {H H' : Hp} (e : Ex H H') : ExT H H' := ⟨fun a o h _ => e a o h, fun a h => fresh_back e h, fun P h => h.stay fun a u q _ => e a u q⟩
theorem TbOk.ext {TS : TabList} {H H' : Hp} (k : TbOk TS H) (e : ExT H H') : TbOk TS H' := ⟨fun P hP => e.tb P (k.all P hP), fun p hp => let ⟨⟨o, h1⟩, h2⟩ := k.cs p hp; ⟨⟨o, e.same _ _ h1 fun ps z => nomatch z⟩, e.tb _ h2⟩⟩
theorem TbOk.stay {TS : TabList} {H H' : Hp} (x : TbOk TS H) (k : ∀ a u, H a = some u → isTb u = true → H' a = some u) : TbOk TS H' := ⟨fun P hP => (x.all P hP).stay k, fun p hp => let ⟨⟨o, h1⟩, h2⟩ := x.cs p hp; ⟨⟨o, k _ _ h1 rfl⟩, h2.stay k⟩⟩
theorem TbOk.upd {TS : TabList} {H : Hp} {a : Addr} {u o : HO} (x : TbOk TS H) (h : H a = some u) (n : isTb u = false) : TbOk TS (L2.upd H a o) := x.stay fun b w e m => by
  rw [upd_ne fun z => ?_]
  · exact e
  · rw [z, h] at e
    cases e
    rw [n] at m
    cases m
structure Ok0 (TS : TabList) (G H : Hp) : Prop where
  le : Ex G H
  tb : TbOk TS H
  nt : ∀ a o, G a = some o → isTb o = false
structure Gr (TS : TabList) (G H G' H' : Hp) : Prop where
  g : Ex G G'
  h : ExT H H'
  nw : ∀ a, G' a ≠ none → G a ≠ none ∨ H a = none
  ok : Ok0 TS G' H'
section
variable {TS : TabList} {G H G1 H1 G2 H2 : Hp} {p : Addr} {o : HO}
theorem Gr.refl (k : Ok0 TS G H) : Gr TS G H G H := ⟨Ex.refl G, ExT.refl H, fun _ h => .inl h, k⟩
theorem Gr.trans (a : Gr TS G H G1 H1) (b : Gr TS G1 H1 G2 H2) : Gr TS G H G2 H2 :=
  ⟨a.g.trans b.g, a.h.trans b.h, fun x h => (b.nw x h).elim (fun z => a.nw x z) fun z => .inr (a.h.old x z), b.ok⟩
theorem upd_none {b : Addr} (h : upd H p o b = none) : H b = none := by
  by_cases e : b = p
  · subst e
    rw [upd_same] at h
    cases h
  · rwa [upd_ne e] at h
theorem TbOk.new (k : TbOk TS H) (hp : H p = none) : TbOk TS (L2.upd H p o) := k.stay fun b w e _ => by
  rw [upd_ne (ne_of_none e hp)]
  exact e
theorem Gr.own (k : Ok0 TS G H) (hp : H p = none) : Gr TS G H G (upd H p o) :=
  ⟨Ex.refl G, .of (Ex.new hp), fun _ h => .inl h, ⟨k.le.trans (Ex.new hp), k.tb.new hp, k.nt⟩⟩
theorem nt_upd (k : ∀ a o, G a = some o → isTb o = false) (ho : isTb o = false) : ∀ a u, upd G p o a = some u → isTb u = false := fun a u e => by
  by_cases q : a = p
  · subst q
    rw [upd_same] at e
    cases e
    exact ho
  · rw [upd_ne q] at e
    exact k a u e
theorem Gr.new (k : Ok0 TS G H) (hp : H p = none) (ho : isTb o = false := by rfl) : Gr TS G H (upd G p o) (upd H p o) := by
  have hg : G p = none := fresh_back k.le hp
  refine ⟨Ex.new hg, .of (Ex.new hp), fun a h => ?_, ⟨fun a u e => ?_, k.tb.new hp, nt_upd k.nt ho⟩⟩
  · by_cases e : a = p
    · subst e
      exact .inr hp
    · rw [upd_ne e] at h
      exact .inl h
  · by_cases q : a = p
    · subst q
      rw [upd_same] at e ⊢
      exact e
    · rw [upd_ne q] at e ⊢
      exact k.le _ _ e
theorem Gr.count (k : Ok0 TS G H) (g0 : G p = none) (hp : H p = some o) (ho : isTb o = false := by rfl) : Ex G (upd G p o) ∧ Ok0 TS (upd G p o) H :=
  ⟨Ex.new g0, fun a u e => by
    by_cases q : a = p
    · subst q
      rw [upd_same] at e
      cases e
      exact hp
    · rw [upd_ne q] at e
      exact k.le _ _ e, k.tb, nt_upd k.nt ho⟩
end
def ExcRep (K : PySem.W.Frag) (G H : Hp) (d : Option Addr) : List (Str × D) → Prop
  | [] => d = none
  | fs => ∃ a vfs, d = some a ∧ G a = some (.xd vfs) ∧ vfs.map (·.1) = fs.map (·.1) ∧ Rps K G (vfs.map (·.2)) (fs.map (·.2))
def PostX (TS : TabList) (X : Cx) (W : WX) (σ : L2.St) (G H : Hp) (c : Str) (fs : List (Str × D)) : Prop :=
  ∀ (C : Addr) (d : Option Addr) (G' H' : Hp), X.mg c = some (.ref C) → Gr TS G H G' H' → ExcRep X.K G' H' d fs → W (.ref C) d σ H'
def PostG {β γ : Type} (Rel : Hp → Hp → Hp → γ → β → Prop) (TS : TabList) (X : Cx) (W : WX) (σ : L2.St) (G H : Hp) (r : Res β) (Q : γ → Hp → Prop) : Prop :=
  match r with
  | .ok b => ∀ v G' H', Gr TS G H G' H' → Rel H G' H' v b → Q v H'
  | .exc c fs => PostX TS X W σ G H c fs
  | .bad => False
  | .alt f => ∀ i, PostG Rel TS X W σ G H (f i) Q
def Back {β γ : Type} (Rel : Hp → Hp → Hp → γ → β → Prop) : Prop := ∀ H H1 G' H' v b, (∀ a, H1 a = none → H a = none) → Rel H1 G' H' v b → Rel H G' H' v b
abbrev RelE (K : PySem.W.Frag) : Hp → Hp → Hp → V → D → Prop := fun _ G' _ v d => Rp K G' v d
abbrev RelA (K : PySem.W.Frag) : Hp → Hp → Hp → List V → List D → Prop := fun _ G' _ v d => Rps K G' v d
abbrev RelT : Hp → Hp → Hp → Bool → Bool → Prop := fun _ _ _ v b => v = b
abbrev RelL (K : PySem.W.Frag) : Hp → Hp → Hp → V → List D → Prop := fun H0 G' H' v ds => ∃ p vs, v = .ref p ∧ H0 p = none ∧ G' p = none ∧ H' p = some (.lst vs) ∧ Rps K G' vs ds
theorem back_E {K : PySem.W.Frag} : Back (RelE K) := fun _ _ _ _ _ _ _ h => h
theorem back_A {K : PySem.W.Frag} : Back (RelA K) := fun _ _ _ _ _ _ _ h => h
theorem back_T : Back RelT := fun _ _ _ _ _ _ _ h => h
theorem back_L {K : PySem.W.Frag} : Back (RelL K) := fun _ _ _ _ _ _ n ⟨p, vs, e, h, r⟩ => ⟨p, vs, e, n p h, r⟩
section
variable {TS : TabList} {X : Cx} {W : WX} {σ : L2.St} {G H G1 H1 : Hp} {α β γ δ : Type}
theorem PostX.shift {c : Str} {fs : List (Str × D)} (g : Gr TS G H G1 H1) (p : PostX TS X W σ G H c fs) : PostX TS X W σ G1 H1 c fs := fun C d G' H' m h r => p C d G' H' m (g.trans h) r
theorem PostG.shift {Rel : Hp → Hp → Hp → γ → β → Prop} (bk : Back Rel) {r : Res β} {Q : γ → Hp → Prop} (g : Gr TS G H G1 H1) (p : PostG Rel TS X W σ G H r Q) : PostG Rel TS X W σ G1 H1 r Q := by
  induction r with
  | ok b => exact fun v G' H' h r => p v G' H' (g.trans h) (bk _ _ _ _ _ _ g.h.old r)
  | exc c fs => exact PostX.shift g p
  | bad => exact p
  | alt f ih => exact fun i => ih i (p i)
theorem bindP {Ra : Hp → Hp → Hp → δ → α → Prop} {Rb : Hp → Hp → Hp → γ → β → Prop} (bk : Back Rb) {r : Res α} {k : α → Res β} {Q : γ → Hp → Prop} {R : δ → Hp → Prop} {wp : (δ → Hp → Prop) → Prop}
    (hr : ∀ Q', PostG Ra TS X W σ G H r Q' → wp Q') (post : PostG Rb TS X W σ G H (r.bind k) Q)
    (next : ∀ v x G1 H1, r.Leaf x → Gr TS G H G1 H1 → Ra H G1 H1 v x → PostG Rb TS X W σ G1 H1 (k x) Q → R v H1) : wp R := by
  refine hr R ?_
  clear hr
  induction r with
  | ok x => exact fun v G1 H1 g rel => next v x G1 H1 rfl g rel (PostG.shift bk g post)
  | exc c fs => exact post
  | bad => exact post
  | alt f ih => exact fun i => ih i (post i) fun v x G1 H1 l => next v x G1 H1 ⟨i, l⟩
theorem mapP {Ra : Hp → Hp → Hp → δ → α → Prop} {Rb : Hp → Hp → Hp → γ → β → Prop} {r : Res α} {f : α → β} {Q : γ → Hp → Prop} {R : δ → Hp → Prop} (post : PostG Rb TS X W σ G H (r.map f) Q)
    (next : ∀ v x G1 H1, Gr TS G H G1 H1 → Ra H G1 H1 v x → PostG Rb TS X W σ G H (.ok (f x)) Q → R v H1) : PostG Ra TS X W σ G H r R := by
  induction r with
  | ok x => exact fun v G1 H1 g rel => next v x G1 H1 g rel post
  | exc c fs => exact post
  | bad => exact post
  | alt f ih => exact fun i => ih i (post i)
end
section
variable {TS : TabList} {X : Cx} {W : WX} {σ : L2.St} {G H : Hp} {α β γ : Type}
theorem Res.Leaf.bind {r : Res α} {k : α → Res β} {a : α} {b : β} (h : r.Leaf a) (h2 : (k a).Leaf b) : (r.bind k).Leaf b := by
  induction r with
  | ok x =>
    rw [← show x = a from h] at h2
    exact h2
  | alt f ih =>
    obtain ⟨i, h⟩ := h
    exact ⟨i, ih i h⟩
  | _ => exact h.elim
end
def det {α : Type} : Res α → Res α
  | .alt _ => .bad
  | r => r
section
variable {TS : TabList} {X : Cx} {W : WX} {σ : L2.St} {G H : Hp} {α β γ : Type}
end
abbrev loD (ds : List D) : D := .dict [(.none, .list ds)]
abbrev stD (ds : List D) : D := .dict [(.bool true, .list ds)]
abbrev exD (x : D) : D := .dict [(.bool false, x)]
def xfD (c : Str) (fs : List (Str × D)) : D := .list (.str c :: fs.map fun p => .tuple [.str p.1, p.2])
inductive XAt (T : TabList) (K : PySem.W.Frag) (G : Hp) (a : Addr) : D → Prop
  | cls {c : Str} : T.ex = some (a, c, none) → XAt T K G a (.str c)
  | fld {c : Str} {d : Addr} {vfs : List (Str × V)} {fs : List (Str × D)} : T.ex = some (a, c, some d) → G d = some (.xd vfs) → vfs.map (·.1) = fs.map (·.1) → Rps K G (vfs.map (·.2)) (fs.map (·.2)) → XAt T K G a (xfD c fs)
theorem XAt.mono {T : TabList} {K : PySem.W.Frag} {G G' : Hp} {a : Addr} {x : D} (h : XAt T K G a x) (e : Ex G G') : XAt T K G' a x := by
  cases h with
  | cls h => exact .cls h
  | fld h1 h2 h3 h4 => exact .fld h1 (e _ _ h2) h3 (h4.mono e)
def isLo : D → Bool
  | .dict [(.bool false, _)] => true
  | .dict [(.none, .list _)] => true
  | .dict [(.bool true, .list _)] => true
  | _ => false
theorem Rp.notLo {K : PySem.W.Frag} {G : Hp} {v : V} {d : D} (r : Rp K G v d) : isLo d = false := by
  cases r with
  | dic h e =>
    cases e with
    | nil => rfl
    | cons r e =>
      rename_i k _ _ _ _
      cases k <;> rfl
  | _ => rfl
inductive DkR (K : PySem.W.Frag) (G : Hp) : List (NestedKey × Addr × Addr) → List D → Prop
  | nil : DkR K G [] []
  | cons {k : NestedKey} {ka b : Addr} {kd vd : D} {ys : List (NestedKey × Addr × Addr)} {es : List D} : Rp K G (.ref ka) kd → nk kd = k → keyB kd = true → kd.depth ≤ 8 → Rp K G (.ref b) vd → DkR K G ys es → DkR K G ((k, ka, b) :: ys) (.tuple [kd, vd] :: es)
theorem DkR.mono {K : PySem.W.Frag} {G G' : Hp} (e : Ex G G') : ∀ {ys : List (NestedKey × Addr × Addr)} {es : List D}, DkR K G ys es → DkR K G' ys es
  | _, _, .nil => .nil
  | _, _, .cons r1 h1 h2 h3 r2 rs => .cons (r1.mono e) h1 h2 h3 (r2.mono e) (rs.mono e)
def strO (a sc : Addr) : HO := .ext fun h => ∃ (p c : Int) (t1 t2 : Tok) (n : Nat), h.get? a = some { cls := .type "list", data := .seq #[.ref sc, .int p t1, .int c t2] n } ∧ 0 ≤ p
structure StrAt (K : PySem.W.Frag) (G : Hp) (a : Addr) : Prop where
  ex : ∃ (sc : Addr) (ns : List Int), G a = some (strO a sc) ∧ SqL K G sc (ns.map V.int)
theorem StrAt.mono {K : PySem.W.Frag} {G G' : Hp} {a : Addr} (x : StrAt K G a) (e : Ex G G') : StrAt K G' a :=
  let ⟨sc, ns, h1, h2⟩ := x.ex
  ⟨sc, ns, e _ _ h1, ex_l e h2⟩
structure StAt (TS : TabList) (K : PySem.W.Frag) (G H : Hp) (a : Addr) (ds : List D) : Prop where
  ex : ((ds ≠ [] ∧ ds.head? ≠ some .none ∧ ds.head? ≠ some (.bool false)) ∧ H a = some (setO TS.P TS.w a ds)) ∨ (∃ ps : List (Addr × NestedKey), H a = some (keyO TS.P TS.w a ps) ∧ Rps K G (ps.map fun e => V.ref e.1) ds ∧ nks ds = ps.map (·.2) ∧ keysB ds = true ∧ ∀ d ∈ ds, d.depth ≤ 8) ∨
    (∃ ys es, ds = .none :: es ∧ H a = some (dkO TS.P TS.w a ys) ∧ DkR K G ys es) ∨ (ds = [.bool false] ∧ StrAt K G a ∧ ∃ sc, H a = some (strO a sc))
theorem StAt.mono {TS : TabList} {K : PySem.W.Frag} {G G' H H' : Hp} {a : Addr} {ds : List D} (x : StAt TS K G H a ds) (e : Ex G G') (h : ∀ u, H a = some u → isTb u = false → H' a = some u) : StAt TS K G' H' a ds := by
  rcases x.ex with ⟨n, z⟩ | ⟨ps, z, r, q⟩ | ⟨ys, es, q, z, r⟩ | ⟨q, r, sc, z⟩
  · exact ⟨.inl ⟨n, h _ z rfl⟩⟩
  · exact ⟨.inr (.inl ⟨ps, h _ z rfl, r.mono e, q⟩)⟩
  · exact ⟨.inr (.inr (.inl ⟨ys, es, q, h _ z rfl, r.mono e⟩))⟩
  · exact ⟨.inr (.inr (.inr ⟨q, r.mono e, sc, h _ z rfl⟩))⟩
theorem StAt.there {TS : TabList} {K : PySem.W.Frag} {G H : Hp} {a : Addr} {ds : List D} (x : StAt TS K G H a ds) : ∃ u, H a = some u ∧ isTb u = false := by
  rcases x.ex with ⟨_, z⟩ | ⟨ps, z, _⟩ | ⟨ys, es, _, z, _⟩ | ⟨_, _, sc, z⟩
  · exact ⟨_, z, rfl⟩
  · exact ⟨_, z, rfl⟩
  · exact ⟨_, z, rfl⟩
  · exact ⟨_, z, rfl⟩
structure RpE (TS : TabList) (K : PySem.W.Frag) (G H : Hp) (ρ : En) (σ : L2.St) : Prop where
  len : ρ.length ≤ σ.length
  at' : ∀ (i : Nat) (d : D), ρ[i]? = some (some d) → isLo d = false → ∃ v, σ[i]? = some (some v) ∧ Rp K G v d
  lo : ∀ (i : Nat) (ds : List D), ρ[i]? = some (some (loD ds)) → ∃ a vs, σ[i]? = some (some (.ref a)) ∧ H a = some (.lst vs) ∧ Rps K G vs ds
  st : ∀ (i : Nat) (ds : List D), ρ[i]? = some (some (stD ds)) → ∃ a, σ[i]? = some (some (.ref a)) ∧ StAt TS K G H a ds
  ex : ∀ (i : Nat) (x : D), ρ[i]? = some (some (exD x)) → ∃ a, σ[i]? = some (some (.ref a)) ∧ XAt TS K G a x
theorem RpE.mono {TS : TabList} {K : PySem.W.Frag} {G G' H H' : Hp} {ρ : En} {σ : L2.St} (g : Gr TS G H G' H') (h : RpE TS K G H ρ σ) : RpE TS K G' H' ρ σ :=
  ⟨h.len, fun i d q z => let ⟨v, a, b⟩ := h.at' i d q z; ⟨v, a, b.mono g.g⟩, fun i ds q => let ⟨a, vs, h1, h2, h3⟩ := h.lo i ds q; ⟨a, vs, h1, g.h.same a _ h2 (fun ps e => by cases e), h3.mono g.g⟩, fun i ds q => let ⟨a, h1, h2⟩ := h.st i ds q; ⟨a, h1, h2.mono g.g fun u hu n => g.h.same a u hu fun ps z => by rw [z] at n; cases n⟩, fun i x q => let ⟨a, h1, h2⟩ := h.ex i x q; ⟨a, h1, h2.mono g.g⟩⟩
def wpE (X : Cx) (e : Expr) : TE := fun σ H Q => ∀ (pins : List (Addr × Obj)) (s : Shared), Inv X pins σ H s → wpAny (model X.prog X.w) X.A (eval e X.env) (EP X pins σ Q) X.xe s
theorem pe_wp (X : Cx) (e : Expr) : PE X e (wpE X e) := ⟨fun pins s _ _ _ I h => h pins s I⟩
theorem wpE_of {X : Cx} {e : Expr} {t : TE} {σ : L2.St} {H : Hp} {Q : VK} (h : PE X e t) (q : t σ H Q) : wpE X e σ H Q := fun pins s I => h.run pins s σ H Q I q
def wpT (X : Cx) (e : Expr) : TT := fun σ H Q => ∀ (pins : List (Addr × Obj)) (s : Shared), Inv X pins σ H s → wpAny (model X.prog X.w) X.A (isTrue e X.env (eval e X.env)) (TP X pins σ Q) X.xe s
theorem pt_wp (X : Cx) (e : Expr) : PT X e (wpT X e) := ⟨fun pins s _ _ _ I h => h pins s I⟩
theorem wpT_of {X : Cx} {e : Expr} {t : TT} {σ : L2.St} {H : Hp} {Q : Bool → Hp → Prop} (h : PT X e t) (q : t σ H Q) : wpT X e σ H Q := fun pins s I => h.run pins s σ H Q I q
def wpA (X : Cx) (es : List Expr) : TA := fun σ H Q => ∀ (pos : Pos) (pins : List (Addr × Obj)) (s : Shared), Inv X pins σ H s → wpAny (model X.prog X.w) X.A (spliced (backTo pos (starEach es X.env))) (AP X pins σ Q) X.xe s
theorem pa_wp (X : Cx) (es : List Expr) : PA X es (wpA X es) := ⟨fun pos pins s _ _ _ I h => h pos pins s I⟩
theorem wpA_of {X : Cx} {es : List Expr} {t : TA} {σ : L2.St} {H : Hp} {Q : List V → Hp → Prop} (h : PA X es t) (q : t σ H Q) : wpA X es σ H Q := fun pos pins s I => h.run pos pins s σ H Q I q
structure DE (TS : TabList) (X : Cx) (e : Expr) (f : En → Res D) : Prop where
  run : ∀ (W : WX) (ρ : En) (σ : L2.St) (G H : Hp) (Q : VK), Takes X W → RpE TS X.K G H ρ σ → Ok0 TS G H → PostG (RelE X.K) TS X W σ G H (f ρ) Q → wpE X e σ H Q
instance {TS : TabList} {X : Cx} {e : Expr} {f : En → Res D} : CoeFun (DE TS X e f) fun _ => ∀ (W : WX) (ρ : En) (σ : L2.St) (G H : Hp) (Q : VK), Takes X W → RpE TS X.K G H ρ σ → Ok0 TS G H → PostG (RelE X.K) TS X W σ G H (f ρ) Q → wpE X e σ H Q := ⟨DE.run⟩
structure DL (TS : TabList) (X : Cx) (e : Expr) (f : En → Res (List D)) : Prop where
  run : ∀ (W : WX) (ρ : En) (σ : L2.St) (G H : Hp) (Q : VK), Takes X W → RpE TS X.K G H ρ σ → Ok0 TS G H → PostG (RelL X.K) TS X W σ G H (f ρ) Q → wpE X e σ H Q
instance {TS : TabList} {X : Cx} {e : Expr} {f : En → Res (List D)} : CoeFun (DL TS X e f) fun _ => ∀ (W : WX) (ρ : En) (σ : L2.St) (G H : Hp) (Q : VK), Takes X W → RpE TS X.K G H ρ σ → Ok0 TS G H → PostG (RelL X.K) TS X W σ G H (f ρ) Q → wpE X e σ H Q := ⟨DL.run⟩
structure DT (TS : TabList) (X : Cx) (e : Expr) (f : En → Res Bool) : Prop where
  run : ∀ (W : WX) (ρ : En) (σ : L2.St) (G H : Hp) (Q : Bool → Hp → Prop), Takes X W → RpE TS X.K G H ρ σ → Ok0 TS G H → PostG RelT TS X W σ G H (f ρ) Q → wpT X e σ H Q
instance {TS : TabList} {X : Cx} {e : Expr} {f : En → Res Bool} : CoeFun (DT TS X e f) fun _ => ∀ (W : WX) (ρ : En) (σ : L2.St) (G H : Hp) (Q : Bool → Hp → Prop), Takes X W → RpE TS X.K G H ρ σ → Ok0 TS G H → PostG RelT TS X W σ G H (f ρ) Q → wpT X e σ H Q := ⟨DT.run⟩
structure DA (TS : TabList) (X : Cx) (es : List Expr) (f : En → Res (List D)) : Prop where
  run : ∀ (W : WX) (ρ : En) (σ : L2.St) (G H : Hp) (Q : List V → Hp → Prop), Takes X W → RpE TS X.K G H ρ σ → Ok0 TS G H → PostG (RelA X.K) TS X W σ G H (f ρ) Q → wpA X es σ H Q
instance {TS : TabList} {X : Cx} {es : List Expr} {f : En → Res (List D)} : CoeFun (DA TS X es f) fun _ => ∀ (W : WX) (ρ : En) (σ : L2.St) (G H : Hp) (Q : List V → Hp → Prop), Takes X W → RpE TS X.K G H ρ σ → Ok0 TS G H → PostG (RelA X.K) TS X W σ G H (f ρ) Q → wpA X es σ H Q := ⟨DA.run⟩
theorem DL.de {TS : TabList} {X : Cx} {e : Expr} {f : En → Res (List D)} (h : DL TS X e f) : DE TS X e (fun ρ => (f ρ).map .list) := by
  refine ⟨?_⟩
  intro W ρ σ G H Q tk re ok post
  refine h W ρ σ G H Q tk re ok ?_
  have post : PostG (RelE X.K) TS X W σ G H ((f ρ).map .list) Q := post
  refine mapP post ?_
  rintro v ds G' H' g ⟨p, vs, rfl, h0, g0, hp, r⟩ post
  obtain ⟨e1, e2⟩ := Gr.count g.ok g0 hp
  refine post _ _ H' ⟨g.g.trans e1, g.h, fun a q => ?_, e2⟩ (.lst (.inl (.inl upd_same)) (r.mono e1))
  by_cases z : a = p
  · subst z
    exact .inr h0
  · rw [upd_ne z] at q
    exact g.nw a q
end Pyr
set_option Elab.async false
set_option linter.all false
set_option maxRecDepth 100000
set_option maxHeartbeats 1000000
namespace Pyr
open PySem PySem.Spec PyProof.Rows L2 Evl
structure CtE (X : Cx) : Prop where
  calm : X.calm = true
  nd : X.N.Nodup
  un : X.A.units + 65 < cLine
mutual
def okD : Nat → D → Bool
  | _, .none => true
  | _, .bool _ => true
  | _, .int _ => true
  | _, .str x => PyData.strOk x
  | 0, .list _ => false
  | n + 1, .list ds => okDs n ds
  | 0, .tuple _ => false
  | n + 1, .tuple ds => okDs n ds
  | _, .dict _ => false
def okDs : Nat → List D → Bool
  | _, [] => true
  | n, d :: ds => okD n d && okDs n ds
end
mutual
theorem okD_flat : ∀ (d : D) (n : Nat), okD n d = true → flatD d = true ∧ d.canLay0 = true ∧ d.depth ≤ n
  | .none, n, _ => ⟨by simp [flatD], by simp [PyData.canLay0], by simp [PyData.depth]⟩
  | .bool _, n, _ => ⟨by simp [flatD], by simp [PyData.canLay0], by simp [PyData.depth]⟩
  | .int _, n, _ => ⟨by simp [flatD], by simp [PyData.canLay0], by simp [PyData.depth]⟩
  | .str _, n, h => ⟨by simp [flatD], by simpa [PyData.canLay0, okD] using h, by simp [PyData.depth]⟩
  | .list ds, 0, h => by simp [okD] at h
  | .list ds, n + 1, h => by
    obtain ⟨a, b, c⟩ := okDs_flat ds n (by simpa [okD] using h)
    refine ⟨by simpa [flatD] using a, by simpa [PyData.canLay0] using b, ?_⟩
    simp only [PyData.depth]
    omega
  | .tuple ds, 0, h => by simp [okD] at h
  | .tuple ds, n + 1, h => by
    obtain ⟨a, b, c⟩ := okDs_flat ds n (by simpa [okD] using h)
    refine ⟨by simpa [flatD] using a, by simpa [PyData.canLay0] using b, ?_⟩
    simp only [PyData.depth]
    omega
  | .dict _, n, h => by simp [okD] at h
theorem okDs_flat : ∀ (ds : List D) (n : Nat), okDs n ds = true → flatsD ds = true ∧ PyData.canLayAll0 ds = true ∧ PyData.depthAll ds ≤ n
  | [], n, _ => ⟨by simp [flatsD], by simp [PyData.canLayAll0], by simp [PyData.depthAll]⟩
  | d :: ds, n, h => by
    rw [okDs, Bool.and_eq_true] at h
    obtain ⟨a, b, c⟩ := okD_flat d n h.1
    obtain ⟨a', b', c'⟩ := okDs_flat ds n h.2
    refine ⟨by rw [flatsD, a, a']; rfl, by rw [PyData.canLayAll0, b, b']; rfl, ?_⟩
    simp only [PyData.depthAll]
    omega
end
abbrev okd (d : D) : Bool := okD 60 d
theorem okd_shaped {d : D} (h : okd d = true) : SeqAt.shaped d = true := by
  obtain ⟨_, b, c⟩ := okD_flat d 60 h
  show (d.canLay0 && decide (d.depth ≤ 64)) = true
  rw [b, decide_eq_true (by omega)]
  rfl
theorem Rp.okdp {K : PySem.W.Frag} {G : Hp} {v : V} {d : D} (r : Rp K G v d) (h : okd d = true) : Dp K G v d := r.dp (okD_flat d 60 h).1
section
variable {X : Cx}
def wpO (X : Cx) (f : Value → Value → Sem Value) : R2 := fun x y H Q => ∀ (pins : List (Addr × Obj)) (s : Shared) (σ : L2.St) (v u : Value), Inv X pins σ H s → RelV x v → RelV y u → wpAny (model X.prog X.w) X.A (f v u) (EP X pins σ Q) X.xe s
theorem opr_wp (f : Value → Value → Sem Value) : OpR X f (wpO X f) := fun pins s σ _ _ _ v u _ I rx ry h => h pins s σ v u I rx ry
theorem wpO_of {f : Value → Value → Sem Value} {r : R2} {x y : V} {H : Hp} {Q : VK} (h : OpR X f r) (q : r x y H Q) : wpO X f x y H Q := fun pins s σ v u I rx ry => h pins s σ H x y v u Q I rx ry q
def wpC (X : Cx) (f : Value) : List V → Hp → VK → Prop := fun xs H Q => ∀ (pins : List (Addr × Obj)) (s : Shared) (σ : L2.St) (us : List Value), Inv X pins σ H s → Vals xs us → wpAny (model X.prog X.w) X.A (call f us) (EP X pins σ Q) X.xe s
theorem cr_wp (f : Value) : CallR X f (wpC X f) := fun pins s σ _ _ us _ I r h => h pins s σ us I r
theorem wpC_of {f : Value} {r : List V → Hp → VK → Prop} {xs : List V} {H : Hp} {Q : VK} (h : CallR X f r) (q : r xs H Q) : wpC X f xs H Q := fun pins s σ us I rx => h pins s σ H xs us Q I rx q
def wpI (X : Cx) : R2 := fun x y H Q => ∀ (value slice : Expr) (pins : List (Addr × Obj)) (s : Shared) (σ : L2.St) (v u : Value), Inv X pins σ H s → RelV x v → RelV y u → subscripted slice false v u = operate [v, u] (getItem v u) → wpAny (model X.prog X.w) X.A (subscriptTail value slice v u) (EP X pins σ Q) X.xe s
theorem ixr_wp : IxR X (wpI X) := fun value slice pins s σ _ _ _ v u _ I rx ry h hs => h value slice pins s σ v u I rx ry hs
theorem wpI_of {r : R2} {x y : V} {H : Hp} {Q : VK} (h : IxR X r) (q : r x y H Q) : wpI X x y H Q := fun value slice pins s σ v u I rx ry hs => h value slice pins s σ H x y v u Q I rx ry q hs
def wpS (X : Cx) : V → Option Int → Option Int → Hp → VK → Prop := fun x lo hi H Q => ∀ (pins : List (Addr × Obj)) (s : Shared) (σ : L2.St) (v vl vu : Value) (sl : Addr), Inv X pins σ H s → RelV x v → s.heap.IsSliceOf sl vl vu .none → IsPart vl lo → IsPart vu hi →
    ∃ T id, typeLookup (.type T) "__getitem__" = pure (some (.builtin id)) ∧ s.TypeIs v T ∧ wpAny (model X.prog X.w) X.A (getItem v (.ref sl)) (EP X pins σ Q) X.xe s
theorem slr_wp : SlR X (wpS X) := fun pins s σ _ _ v vl vu _ _ sl _ I rx hs pl pu h => h pins s σ v vl vu sl I rx hs pl pu
theorem wpS_of {r : V → Option Int → Option Int → Hp → VK → Prop} {x : V} {lo hi : Option Int} {H : Hp} {Q : VK} (h : SlR X r) (q : r x lo hi H Q) : wpS X x lo hi H Q := fun pins s σ v vl vu sl I rx hs pl pu => h pins s σ H x v vl vu lo hi sl Q I rx hs pl pu q
end
def flat0 : D → Bool
  | .none => true
  | .bool _ => true
  | .int _ => true
  | .str _ => true
  | _ => false
def eVar (i : Nat) : En → Res D := fun ρ => match ρ[i]? with
  | some (some d) => if isLo d then .bad else .ok d
  | _ => .bad
def eC (d : D) : En → Res D := fun _ => .ok d
def e1 (g : D → Res D) (fa : En → Res D) : En → Res D := fun ρ => (fa ρ).bind g
def e2 (g : D → D → Res D) (fa fb : En → Res D) : En → Res D := fun ρ => (fa ρ).bind fun x => (fb ρ).bind fun y => g x y
def eN (g : List D → Res D) (fa : En → Res (List D)) : En → Res D := fun ρ => (fa ρ).bind g
def eIf (t : En → Res Bool) (fa fb : En → Res D) : En → Res D := fun ρ => (t ρ).bind fun b => if b then fa ρ else fb ρ
def a0 : En → Res (List D) := fun _ => .ok []
def aC (fa : En → Res D) (fr : En → Res (List D)) : En → Res (List D) := fun ρ => (fa ρ).bind fun x => (fr ρ).bind fun xs => .ok (x :: xs)
def tE (g : D → Res Bool) (fa : En → Res D) : En → Res Bool := fun ρ => (fa ρ).bind g
def tNotR (t : En → Res Bool) : En → Res Bool := fun ρ => (t ρ).bind fun b => .ok (!b)
def tAndR (t u : En → Res Bool) : En → Res Bool := fun ρ => (t ρ).bind fun b => if b then u ρ else .ok false
def tOrR (t u : En → Res Bool) : En → Res Bool := fun ρ => (t ρ).bind fun b => if b then .ok true else u ρ
def eB (t : En → Res Bool) : En → Res D := fun ρ => (t ρ).bind fun b => .ok (.bool b)
def boolD : D → Res Bool
  | .bool b => .ok b
  | _ => .bad
def LIM : Nat := 100000
def okL {α : Type} (n : Nat) (r : Res α) : Res α := if n ≤ LIM then r else .bad
def addD : D → D → Res D
  | .int i, .int j => .ok (.int (i + j))
  | .str x, .str y => okL (x.length + y.length) (.ok (.str (x ++ y)))
  | .list xs, .list ys => okL (xs.length + ys.length) (.ok (.list (xs ++ ys)))
  | .tuple xs, .tuple ys => okL (xs.length + ys.length) (.ok (.tuple (xs ++ ys)))
  | _, _ => .bad
def subD : D → D → Res D
  | .int i, .int j => .ok (.int (i - j))
  | _, _ => .bad
def mulD : D → D → Res D
  | .int i, .int j => if (-(2 ^ 64) < i ∧ i < 2 ^ 64) ∨ (-(2 ^ 64) < j ∧ j < 2 ^ 64) then .ok (.int (i * j)) else .bad
  | _, _ => .bad
def fdivD : D → D → Res D
  | .int i, .int j => if j ≠ 0 ∧ j.natAbs < 1073741824 then .ok (.int (i.fdiv j)) else .bad
  | _, _ => .bad
def modD : D → D → Res D
  | .int i, .int j => if j ≠ 0 then .ok (.int (i.fmod j)) else .bad
  | _, _ => .bad
def powD : D → D → Res D
  | .int i, .int j => if 0 ≤ j ∧ j ≤ 1000000 ∧ i.natAbs < 2 ^ 64 then .ok (.int (i ^ j.toNat)) else .bad
  | _, _ => .bad
def scaD : D → D → Bool
  | .none, .none => true
  | .none, .int _ => true
  | .int _, .none => true
  | .none, .str _ => true
  | .str _, .none => true
  | .int _, .int _ => true
  | .bool _, .bool _ => true
  | .str _, .str _ => true
  | .int _, .str _ => true
  | .str _, .int _ => true
  | _, _ => false
def eqD (x y : D) : Res D := if scaD x y || (okd x && okd y) then .ok (.bool (PyData.eqv x y)) else .bad
def neD (x y : D) : Res D := if scaD x y || (okd x && okd y) then .ok (.bool (!PyData.eqv x y)) else .bad
def ltD : D → D → Res D
  | .int i, .int j => .ok (.bool (decide (i < j)))
  | .str x, .str y => .ok (.bool (decide (x.cps.toList < y.cps.toList)))
  | _, _ => .bad
def leD : D → D → Res D
  | .int i, .int j => .ok (.bool (decide (i ≤ j)))
  | .str x, .str y => .ok (.bool (!decide (y.cps.toList < x.cps.toList)))
  | _, _ => .bad
def gtD : D → D → Res D
  | .int i, .int j => .ok (.bool (decide (j < i)))
  | .str x, .str y => .ok (.bool (decide (y.cps.toList < x.cps.toList)))
  | _, _ => .bad
def geD : D → D → Res D
  | .int i, .int j => .ok (.bool (decide (j ≤ i)))
  | .str x, .str y => .ok (.bool (!decide (x.cps.toList < y.cps.toList)))
  | _, _ => .bad
def isNoneD : D → Bool
  | .none => true
  | _ => false
def isND (x _y : D) : Res D := .ok (.bool (isNoneD x))
def inD : D → D → Res D
  | .str x, .str y => if x.length = 1 then .ok (.bool (decide (x.cps.getD 0 0 ∈ y.cps.toList))) else .bad
  | x, .list ds => if okd x && okd (.list ds) then .ok (.bool (ds.any fun z => PyData.eqv z x)) else .bad
  | x, .tuple ds => if flat0 x && ds.all flat0 then .ok (.bool (ds.any fun z => PyData.eqv z x)) else if okd x && okd (.tuple ds) then .ok (.bool (ds.any fun z => PyData.eqv z x)) else .bad
  | _, _ => .bad
def notInD (x y : D) : Res D := (inD x y).bind fun b => match b with
  | .bool b => .ok (.bool (!b))
  | _ => .bad
def truD : D → Res Bool
  | .none => .ok false
  | .bool b => .ok b
  | .int i => .ok (i != 0)
  | .str x => okL x.length (.ok (x.length != 0))
  | .list ds => .ok (!ds.isEmpty)
  | .tuple ds => .ok (!ds.isEmpty)
  | _ => .bad
def atD : D → D → Res D
  | .list ds, .int i => match atI ds i with
    | some d => .ok d
    | none => .bad
  | .tuple ds, .int i => match atI ds i with
    | some d => .ok d
    | none => .bad
  | .str x, .int i => okL x.length (match atI x.cps.toList i with
    | some c => .ok (.str ⟨#[c]⟩)
    | none => .bad)
  | _, _ => .bad
def lenD : D → Res D
  | .list ds => .ok (.int ds.length)
  | .tuple ds => .ok (.int ds.length)
  | .str x => okL x.length (.ok (.int x.length))
  | _ => .bad
section
variable {TS : TabList} {X : Cx} {a b c : Expr} {fa fb fc : En → Res D} {t u : En → Res Bool} {es rest : List Expr} {fr : En → Res (List D)} {pos : Pos} {g : D → Res D} {g2 : D → D → Res D}
theorem PostG.eq {β γ : Type} {Rel : Hp → Hp → Hp → γ → β → Prop} {W : WX} {σ : L2.St} {G H : Hp} {r r' : Res β} {Q : γ → Hp → Prop} (p : PostG Rel TS X W σ G H r Q) (e : r = r') : PostG Rel TS X W σ G H r' Q := e ▸ p
theorem de_var (i : Nat) {x : Str} (hN : X.N[i]? = some x := by rfl) (hv : Vis X.env.scope x := by first | exact Or.inl rfl | exact Or.inr (Or.inl rfl) | exact Or.inr (Or.inr rfl)) (hd : (x == ("__debug__" : Str)) = false := by decide) (hcd : (x == ("__classdict__" : Str)) = false := by decide) :
    DE TS X (.Name x pos) (eVar i) := by
  refine ⟨?_⟩
  intro W ρ σ G H Q tk re ok post
  have post : PostG (RelE X.K) TS X W σ G H (eVar i ρ) Q := post
  unfold eVar at post
  refine wpE_of (pe_var hN hv hd hcd) ?_
  split at post
  · rename_i d hd
    split at post
    · exact post.elim
    · rename_i hl
      obtain ⟨v, h1, h2⟩ := re.at' i d hd (by simpa using hl)
      exact ⟨v, h1, post v G H (Gr.refl ok) h2⟩
  · exact post.elim
theorem de_c {d : D} {v : V} (h : PE X a (tC v)) (r : ∀ G, Rp X.K G v d) : DE TS X a (eC d) := by
  refine ⟨?_⟩
  intro W ρ σ G H Q tk re ok post
  exact wpE_of h (post v G H (Gr.refl ok) (r G))
theorem de_int {i : Int} {j : Nat} : DE TS X (.Constant (.int i) j pos) (eC (.int i)) := de_c pe_int fun _ => .int i
theorem de_str {x : Str} {j : Nat} : DE TS X (.Constant (.str x) j pos) (eC (.str x)) := de_c pe_str fun _ => .str x
theorem de_bl {k : Bool} {j : Nat} : DE TS X (.Constant (.bool k) j pos) (eC (.bool k)) := de_c pe_bl fun _ => .bl k
theorem de_non {j : Nat} : DE TS X (.Constant .none j pos) (eC .none) := de_c pe_non fun _ => .non
theorem de_glob {x : Str} {d : D} {v : V} {w : Value} (hg : Gl X x) (hm : X.mg x = some w) (r : RelV v w) (rp : ∀ G, Rp X.K G v d) (hd : (x == ("__debug__" : Str)) = false := by decide) : DE TS X (.Name x pos) (eC d) := de_c (pe_glob hg hm r hd) rp
structure OpD (TS : TabList) (X : Cx) (f : Value → Value → Sem Value) (g : D → D → Res D) : Prop where
  run : ∀ (W : WX) (σ : L2.St) (v u : V) (x y : D) (G H : Hp) (Q : VK), Ok0 TS G H → Rp X.K G v x → Rp X.K G u y → PostG (RelE X.K) TS X W σ G H (g x y) Q → wpO X f v u H Q
instance {TS : TabList} {X : Cx} {f : Value → Value → Sem Value} {g : D → D → Res D} : CoeFun (OpD TS X f g) fun _ => ∀ (W : WX) (σ : L2.St) (v u : V) (x y : D) (G H : Hp) (Q : VK), Ok0 TS G H → Rp X.K G v x → Rp X.K G u y → PostG (RelE X.K) TS X W σ G H (g x y) Q → wpO X f v u H Q := ⟨OpD.run⟩
theorem two {R : V → V → Hp → Prop} {W : WX} {ρ : En} {σ : L2.St} {G H : Hp} {Q : VK} (ha : DE TS X a fa) (hb : DE TS X b fb) (tk : Takes X W) (re : RpE TS X.K G H ρ σ) (ok : Ok0 TS G H) (post : PostG (RelE X.K) TS X W σ G H (e2 g2 fa fb ρ) Q)
    (next : ∀ v u x y G2 H2, Ok0 TS G2 H2 → Rp X.K G2 v x → Rp X.K G2 u y → PostG (RelE X.K) TS X W σ G2 H2 (g2 x y) Q → R v u H2) : wpE X a σ H fun v H1 => wpE X b σ H1 fun u H2 => R v u H2 := by
  refine bindP back_E (fun Q' h => ha W ρ σ G H Q' tk re ok h) post fun v x G1 H1 _ g1 rx post1 => ?_
  refine bindP back_E (fun Q' h => hb W ρ σ G1 H1 Q' tk (re.mono g1) g1.ok h) post1 fun u y G2 H2 _ g2' ry post2 => ?_
  exact next v u x y G2 H2 g2'.ok (rx.mono g2'.g) ry post2
theorem de_bin {op : Operator} (h : OpD TS X (binaryOp op) g2) (ha : DE TS X a fa) (hb : DE TS X b fb) : DE TS X (.BinOp a op b pos) (e2 g2 fa fb) := by
  refine ⟨?_⟩
  intro W ρ σ G H Q tk re ok post
  exact wpE_of (pe_op (opr_wp _) (pe_wp X a) (pe_wp X b)) (two ha hb tk re ok post fun v u x y G2 H2 ok2 rx ry p => h W σ v u x y G2 H2 Q ok2 rx ry p)
theorem de_cmp {op : CmpOp} (h : OpD TS X (compareOp op) g2) (ha : DE TS X a fa) (hb : DE TS X b fb) (hm : behindInMarks op b = false := by first | exact nomark _ | rfl) : DE TS X (.Compare a [op] [b] pos) (e2 g2 fa fb) := by
  refine ⟨?_⟩
  intro W ρ σ G H Q tk re ok post
  exact wpE_of (pe_cmpR (opr_wp _) (pe_wp X a) (pe_wp X b) hm) (two ha hb tk re ok post fun v u x y G2 H2 ok2 rx ry p => h W σ v u x y G2 H2 Q ok2 rx ry p)
theorem dt_cmp {op : CmpOp} (h : OpD TS X (compareOp op) g2) (ha : DE TS X a fa) (hb : DE TS X b fb) (hm : behindInMarks op b = false := by first | exact nomark _ | rfl) : DT TS X (.Compare a [op] [b] pos) (tE boolD (e2 g2 fa fb)) := by
  refine ⟨?_⟩
  intro W ρ σ G H Q tk re ok post
  refine wpT_of (pt_cmpR (opr_wp _) (pe_wp X a) (pe_wp X b) hm) ?_
  refine bindP (Ra := RelE X.K) (wp := fun R => wpE X a σ H fun v H1 => wpE X b σ H1 fun u H2 => wpO X (compareOp op) v u H2 R) back_T (fun Q' p => two ha hb tk re ok p fun v u x y G2 H2 ok2 rx ry p => h W σ v u x y G2 H2 Q' ok2 rx ry p) post fun v x G1 H1 _ g1 rx post1 => ?_
  cases rx with
  | bl k => exact ⟨k, rfl, post1 k G1 H1 (Gr.refl g1.ok) rfl⟩
  | _ => exact post1.elim
theorem okL_post {β γ : Type} {Rel : Hp → Hp → Hp → γ → β → Prop} {W : WX} {σ : L2.St} {G H : Hp} {n : Nat} {r : Res β} {Q : γ → Hp → Prop} (p : PostG Rel TS X W σ G H (okL n r) Q) : n ≤ LIM ∧ PostG Rel TS X W σ G H r Q := by
  unfold okL at p
  split at p
  · exact ⟨by assumption, p⟩
  · exact p.elim
theorem lim_line {n : Nat} (h : n ≤ LIM) : n ≤ sizeLine := Nat.le_trans h (by decide)
end
end Pyr
set_option Elab.async false
set_option linter.all false
set_option maxRecDepth 100000
set_option maxHeartbeats 1000000
namespace Pyr
open PySem PySem.Spec PyProof.Rows L2 Evl
section
variable {TS : TabList} {X : Cx} {a b c : Expr} {fa fb fc : En → Res D} {t u : En → Res Bool} {es rest : List Expr} {fr : En → Res (List D)} {pos : Pos} {g : D → Res D} {g2 : D → D → Res D}
theorem fin1 {W : WX} {σ : L2.St} {G H : Hp} {Q : VK} {d : D} {v : V} (ok : Ok0 TS G H) (p : PostG (RelE X.K) TS X W σ G H (.ok d) Q) (r : Rp X.K G v d) : Q v H := p v G H (Gr.refl ok) r
def rCatG (K : PySem.W.Frag) : R2 := fun x y H Q => ∃ l b xs zs, x = .ref l ∧ y = .ref b ∧ SqL K H l xs ∧ SqL K H b zs ∧ xs.length + zs.length ≤ sizeLine ∧ ∀ p, H p = none → Q (.ref p) (upd H p (.lst (xs ++ zs)))
theorem op_catG : OpR X (binaryOp .Add) (rCatG X.K) := by
  intro pins s σ H x y v u Q I rx ry h
  obtain ⟨l, b, xs, zs, rfl, rfl, hl, hb, hz, q⟩ := h
  cases rx
  cases ry
  obtain ⟨is1, r1, p1, _⟩ := I.list hl
  obtain ⟨is2, r2, p2, _⟩ := I.list hb
  have l1 := r1.length
  have l2 := r2.length
  obtain ⟨⟨c1, d1, t1, s1⟩, n1, ho1, hc1, hd1, ht1⟩ := p1
  obtain ⟨⟨c2, d2, t2, s2⟩, n2, ho2, hc2, hd2, ht2⟩ := p2
  simp only at hc1 hd1 ht1 hc2 hd2 ht2
  subst hc1 hd1 ht1 hc2 hd2 ht2
  refine concat_meets ⟨_, ho1, rfl⟩ ⟨_, ho2, rfl⟩ noFill_list_add seq_list_add PySem.F.slot_list_add PySem.F.entry_list_add (PySem.F.args_list_add_2 _ _) (list_addW l b is1.toArray is2.toArray n1 n2 none none s1 s2 (by simp only [List.size_toArray]; omega)) ⟨ho1, ho2, ?_⟩
  have ea : is1.toArray ++ is2.toArray = (is1 ++ is2).toArray := by simp
  rw [ea]
  exact ⟨.ref _, _, I.lnew (t' := s.toks) (r1.append r2) (by rw [List.length_append]; omega), rfl, q _ I.fresh⟩
theorem Rp.list_inv {K : PySem.W.Frag} {G : Hp} {v : V} {ds : List D} (r : Rp K G v (.list ds)) : ∃ a xs, v = .ref a ∧ SqL K G a xs ∧ Rps K G xs ds := by
  cases r with
  | lst h r => exact ⟨_, _, rfl, h, r⟩
theorem Rp.tup_inv' {K : PySem.W.Frag} {G : Hp} {v : V} {ds : List D} (r : Rp K G v (.tuple ds)) : ∃ a xs, v = .ref a ∧ SqT K G a xs ∧ Rps K G xs ds := by
  cases r with
  | tup h r => exact ⟨_, _, rfl, h, r⟩
theorem od_add : OpD TS X (binaryOp .Add) addD := by
  refine ⟨?_⟩
  intro W σ v u x y G H Q ok rx ry p
  unfold addD at p
  split at p
  · cases rx
    cases ry
    exact wpO_of op_add ⟨_, _, rfl, rfl, fin1 ok p (.int _)⟩
  · cases rx
    cases ry
    obtain ⟨h, p⟩ := okL_post p
    exact wpO_of op_add_str ⟨_, _, rfl, rfl, lim_line h, fin1 ok p (.str _)⟩
  · obtain ⟨h, p⟩ := okL_post p
    obtain ⟨l, as, rfl, hl, r1⟩ := rx.list_inv
    obtain ⟨b, bs, rfl, hb, r2⟩ := ry.list_inv
    refine wpO_of op_catG ⟨l, b, as, bs, rfl, rfl, ex_l ok.le hl, ex_l ok.le hb, lim_line (by rw [r1.len, r2.len]; exact h), fun q hq => ?_⟩
    have g := Gr.new (o := .lst (as ++ bs)) ok hq
    exact p _ _ _ g (.lst (.inl (.inl upd_same)) ((r1.app r2).mono g.g))
  · obtain ⟨h, p⟩ := okL_post p
    obtain ⟨l, as, rfl, hl, r1⟩ := rx.tup_inv'
    obtain ⟨b, bs, rfl, hb, r2⟩ := ry.tup_inv'
    refine wpO_of op_catA ⟨l, b, as, bs, rfl, rfl, ex_t ok.le hl, ex_t ok.le hb, lim_line (by rw [r1.len, r2.len]; exact h), fun e => ?_, fun _ e => ?_, fun _ _ q hq => ?_⟩
    · subst e
      cases r1
      exact fin1 ok p (.tup hb r2)
    · subst e
      cases r2
      rw [List.append_nil] at p
      exact fin1 ok p (.tup hl r1)
    · have g := Gr.new (o := .tup (as ++ bs)) ok hq
      exact p _ _ _ g (.tup (.inl (.inl upd_same)) ((r1.app r2).mono g.g))
  · exact p.elim
theorem od_sub : OpD TS X (binaryOp .Sub) subD := by
  refine ⟨?_⟩
  intro W σ v u x y G H Q ok rx ry p
  unfold subD at p
  split at p
  · cases rx
    cases ry
    exact wpO_of op_sub ⟨_, _, rfl, rfl, fin1 ok p (.int _)⟩
  · exact p.elim
theorem od_mul : OpD TS X (binaryOp .Mult) mulD := by
  refine ⟨?_⟩
  intro W σ v u x y G H Q ok rx ry p
  unfold mulD at p
  split at p
  · cases rx
    cases ry
    split at p
    · rename_i h
      exact wpO_of op_mul ⟨_, _, rfl, rfl, h, fin1 ok p (.int _)⟩
    · exact p.elim
  · exact p.elim
theorem od_fdiv : OpD TS X (binaryOp .FloorDiv) fdivD := by
  refine ⟨?_⟩
  intro W σ v u x y G H Q ok rx ry p
  unfold fdivD at p
  split at p
  · cases rx
    cases ry
    split at p
    · rename_i h
      exact wpO_of op_fdivN ⟨_, _, rfl, rfl, h, fin1 ok p (.int _)⟩
    · exact p.elim
  · exact p.elim
theorem od_mod : OpD TS X (binaryOp .Mod) modD := by
  refine ⟨?_⟩
  intro W σ v u x y G H Q ok rx ry p
  unfold modD at p
  split at p
  · cases rx
    cases ry
    split at p
    · rename_i h
      exact wpO_of op_modN ⟨_, _, rfl, rfl, h, fin1 ok p (.int _)⟩
    · exact p.elim
  · exact p.elim
theorem od_pow : OpD TS X (binaryOp .Pow) powD := by
  refine ⟨?_⟩
  intro W σ v u x y G H Q ok rx ry p
  unfold powD at p
  split at p
  · cases rx
    cases ry
    split at p
    · rename_i h
      exact wpO_of op_pow ⟨_, _, rfl, rfl, h, fin1 ok p (.int _)⟩
    · exact p.elim
  · exact p.elim
theorem eq_eqv {K : PySem.W.Frag} {G : Hp} {v u : V} {x y : D} (rx : Rp K G v x) (ry : Rp K G u y) (h : scaD x y = true) : scal v u = true ∧ decide (v = u) = PyData.eqv x y := by
  cases rx <;> cases ry <;> simp [scaD] at h <;> refine ⟨rfl, ?_⟩ <;> simp only [PyData.eqv] <;> rw [Bool.eq_iff_iff] <;> simp
theorem od_eq (C : CtE X) : OpD TS X (compareOp .Eq) eqD := by
  refine ⟨?_⟩
  intro W σ v u x y G H Q ok rx ry p
  unfold eqD at p
  split at p
  · rename_i h
    by_cases hs : scaD x y = true
    · obtain ⟨h1, h2⟩ := eq_eqv rx ry hs
      exact wpO_of op_eq ⟨h1, by rw [h2]; exact fin1 ok p (.bl _)⟩
    · rw [Bool.or_eq_true, Bool.and_eq_true] at h
      obtain ⟨hx, hy⟩ := h.resolve_left hs
      exact wpO_of (op_eqD (by have := C.un; omega)) ⟨x, y, (rx.mono ok.le).okdp hx, (ry.mono ok.le).okdp hy, okd_shaped hx, okd_shaped hy, fin1 ok p (.bl _)⟩
  · exact p.elim
theorem od_ne (C : CtE X) : OpD TS X (compareOp .NotEq) neD := by
  refine ⟨?_⟩
  intro W σ v u x y G H Q ok rx ry p
  unfold neD at p
  split at p
  · rename_i h
    by_cases hs : scaD x y = true
    · obtain ⟨h1, h2⟩ := eq_eqv rx ry hs
      exact wpO_of op_ne ⟨h1, by rw [h2]; exact fin1 ok p (.bl _)⟩
    · rw [Bool.or_eq_true, Bool.and_eq_true] at h
      obtain ⟨hx, hy⟩ := h.resolve_left hs
      exact wpO_of (op_neD (by have := C.un; omega)) ⟨x, y, (rx.mono ok.le).okdp hx, (ry.mono ok.le).okdp hy, okd_shaped hx, okd_shaped hy, fin1 ok p (.bl _)⟩
  · exact p.elim
theorem od_le : OpD TS X (compareOp .LtE) leD := by
  refine ⟨?_⟩
  intro W σ v u x y G H Q ok rx ry p
  unfold leD at p
  split at p
  · cases rx
    cases ry
    exact wpO_of op_le ⟨_, _, rfl, rfl, fin1 ok p (.bl _)⟩
  · cases rx
    cases ry
    exact wpO_of op_le_str ⟨_, _, rfl, rfl, fin1 ok p (.bl _)⟩
  · exact p.elim
theorem od_gt : OpD TS X (compareOp .Gt) gtD := by
  refine ⟨?_⟩
  intro W σ v u x y G H Q ok rx ry p
  unfold gtD at p
  split at p
  · cases rx
    cases ry
    exact wpO_of op_gt ⟨_, _, rfl, rfl, fin1 ok p (.bl _)⟩
  · cases rx
    cases ry
    exact wpO_of op_gt_str ⟨_, _, rfl, rfl, fin1 ok p (.bl _)⟩
  · exact p.elim
theorem od_ge : OpD TS X (compareOp .GtE) geD := by
  refine ⟨?_⟩
  intro W σ v u x y G H Q ok rx ry p
  unfold geD at p
  split at p
  · cases rx
    cases ry
    exact wpO_of op_ge ⟨_, _, rfl, rfl, fin1 ok p (.bl _)⟩
  · cases rx
    cases ry
    exact wpO_of op_ge_str ⟨_, _, rfl, rfl, fin1 ok p (.bl _)⟩
  · exact p.elim
theorem Rp.tup_inv {K : PySem.W.Frag} {G : Hp} {v : V} {ds : List D} (r : Rp K G v (.tuple ds)) : ∃ a xs, v = .ref a ∧ SqT K G a xs ∧ Rps K G xs ds := by
  cases r with
  | tup h r => exact ⟨_, _, rfl, h, r⟩
theorem dt_tru (ha : DE TS X a fa) (he : ∀ whole, isTrue a X.env whole = (do let v ← whole; standAt a.pos; holding [v] (truthy v)) := by intro _; rfl) : DT TS X a (tE truD fa) := by
  refine ⟨?_⟩
  intro W ρ σ G H Q tk re ok post
  refine wpT_of (pt_truth (pe_wp X a) he) ?_
  refine bindP (wp := fun R => wpE X a σ H R) back_T (fun Q' p => ha W ρ σ G H Q' tk re ok p) post fun v x G1 H1 _ g1 rx p => ?_
  have fin : ∀ {k : Bool}, PostG RelT TS X W σ G1 H1 (.ok k) Q → Q k H1 := fun {k} p => p k G1 H1 (Gr.refl g1.ok) rfl
  unfold truD at p
  split at p
  · cases rx
    exact ⟨_, rfl, fin p⟩
  · cases rx
    exact ⟨_, rfl, fin p⟩
  · cases rx
    exact ⟨_, rfl, fin p⟩
  · cases rx
    obtain ⟨h, p⟩ := okL_post p
    refine ⟨_, ⟨lim_line h, rfl⟩, ?_⟩
    have e : ∀ n : Nat, ((n : Int) != 0) = (n != 0) := fun n => by
      rw [Bool.eq_iff_iff]
      simp
    rw [e]
    exact fin p
  · obtain ⟨a, xs, rfl, h, r⟩ := rx.list_inv
    refine ⟨_, .inl ⟨xs, ex_l g1.ok.le h, rfl⟩, ?_⟩
    have e : xs.isEmpty = (List.isEmpty (by assumption : List D)) := by
      cases r <;> rfl
    rw [e]
    exact fin p
  · obtain ⟨a, xs, rfl, h, r⟩ := rx.tup_inv
    refine ⟨_, .inr (.inl ⟨xs, ex_t g1.ok.le h, rfl⟩), ?_⟩
    have e : xs.isEmpty = (List.isEmpty (by assumption : List D)) := by
      cases r <;> rfl
    rw [e]
    exact fin p
  · exact p.elim
theorem dt_not (ht : DT TS X a t) : DT TS X (.UnaryOp .Not a pos) (tNotR t) := by
  refine ⟨?_⟩
  intro W ρ σ G H Q tk re ok post
  refine wpT_of (pt_not (pt_wp X a)) ?_
  exact bindP (wp := fun R => wpT X a σ H R) back_T (fun Q' p => ht W ρ σ G H Q' tk re ok p) post fun v x G1 H1 _ g1 rx p => by
    subst rx
    exact p _ G1 H1 (Gr.refl g1.ok) rfl
def wpW (X : Cx) (e : Expr) : TT := fun σ H Q => ∀ (whole : Sem Value) (pins : List (Addr × Obj)) (s : Shared), Inv X pins σ H s → wpAny (model X.prog X.w) X.A (isTrue e X.env whole) (TP X pins σ Q) X.xe s
theorem pw_wp (X : Cx) (e : Expr) : PW X e (wpW X e) := ⟨fun whole pins s _ _ _ I h => h whole pins s I⟩
theorem wpW_of {e : Expr} {t : TT} {σ : L2.St} {H : Hp} {Q : Bool → Hp → Prop} (h : PW X e t) (q : t σ H Q) : wpW X e σ H Q := fun whole pins s I => h.run whole pins s σ H Q I q
structure DW (TS : TabList) (X : Cx) (e : Expr) (f : En → Res Bool) : Prop where
  run : ∀ (W : WX) (ρ : En) (σ : L2.St) (G H : Hp) (Q : Bool → Hp → Prop), Takes X W → RpE TS X.K G H ρ σ → Ok0 TS G H → PostG RelT TS X W σ G H (f ρ) Q → wpW X e σ H Q
instance {TS : TabList} {X : Cx} {e : Expr} {f : En → Res Bool} : CoeFun (DW TS X e f) fun _ => ∀ (W : WX) (ρ : En) (σ : L2.St) (G H : Hp) (Q : Bool → Hp → Prop), Takes X W → RpE TS X.K G H ρ σ → Ok0 TS G H → PostG RelT TS X W σ G H (f ρ) Q → wpW X e σ H Q := ⟨DW.run⟩
theorem DW.dt (h : DW TS X a t) : DT TS X a t := .mk fun W ρ σ G H Q tk re ok post => wpT_of (PW.pt (pw_wp X a)) (h W ρ σ G H Q tk re ok post)
theorem dw_and1 (h : DT TS X a t) : DW TS X (.BoolOp .And [a] pos) t := .mk fun W ρ σ G H Q tk re ok post => wpW_of (pw_and1 (pt_wp X a)) (h W ρ σ G H Q tk re ok post)
theorem dw_or1 (h : DT TS X a t) : DW TS X (.BoolOp .Or [a] pos) t := .mk fun W ρ σ G H Q tk re ok post => wpW_of (pw_or1 (pt_wp X a)) (h W ρ σ G H Q tk re ok post)
theorem dw_and (h : DT TS X a t) (h2 : DW TS X (.BoolOp .And (b :: rest) pos) u) : DW TS X (.BoolOp .And (a :: b :: rest) pos) (tAndR t u) := by
  refine ⟨?_⟩
  intro W ρ σ G H Q tk re ok post
  refine wpW_of (pw_and (pt_wp X a) (pw_wp X _)) ?_
  refine bindP (wp := fun R => wpT X a σ H R) back_T (fun Q' p => h W ρ σ G H Q' tk re ok p) post fun v x G1 H1 _ g1 rx p => ?_
  subst rx
  cases v with
  | true => exact iteT (h2 W ρ σ G1 H1 Q tk (re.mono g1) g1.ok p)
  | false => exact iteF (p _ G1 H1 (Gr.refl g1.ok) rfl)
theorem dw_or (h : DT TS X a t) (h2 : DW TS X (.BoolOp .Or (b :: rest) pos) u) : DW TS X (.BoolOp .Or (a :: b :: rest) pos) (tOrR t u) := by
  refine ⟨?_⟩
  intro W ρ σ G H Q tk re ok post
  refine wpW_of (pw_or (pt_wp X a) (pw_wp X _)) ?_
  refine bindP (wp := fun R => wpT X a σ H R) back_T (fun Q' p => h W ρ σ G H Q' tk re ok p) post fun v x G1 H1 _ g1 rx p => ?_
  subst rx
  cases v with
  | true => exact iteT (p _ G1 H1 (Gr.refl g1.ok) rfl)
  | false => exact iteF (h2 W ρ σ G1 H1 Q tk (re.mono g1) g1.ok p)
def eAnd (fa fb : En → Res D) : En → Res D := fun ρ => (fa ρ).bind fun x => (boolD x).bind fun k => if k then fb ρ else .ok (.bool false)
def eOr (fa fb : En → Res D) : En → Res D := fun ρ => (fa ρ).bind fun x => (boolD x).bind fun k => if k then .ok (.bool true) else fb ρ
def eNot (fa : En → Res D) : En → Res D := fun ρ => (fa ρ).bind fun x => (boolD x).bind fun k => .ok (.bool (!k))
theorem de_one {op : BoolOp} (h : DE TS X a fa) : DE TS X (.BoolOp op [a] pos) fa := .mk fun W ρ σ G H Q tk re ok post => wpE_of (pe_one (pe_wp X a)) (h W ρ σ G H Q tk re ok post)
theorem de_and (h : DE TS X a fa) (h2 : DE TS X (.BoolOp .And (b :: rest) pos) fb) : DE TS X (.BoolOp .And (a :: b :: rest) pos) (eAnd fa fb) := by
  refine ⟨?_⟩
  intro W ρ σ G H Q tk re ok post
  refine wpE_of (pe_and (pe_wp X a) (pe_wp X _)) ?_
  refine bindP (wp := fun R => wpE X a σ H R) back_E (fun Q' p => h W ρ σ G H Q' tk re ok p) post fun v x G1 H1 _ g1 rx p => ?_
  cases rx with
  | bl k =>
    refine ⟨k, rfl, ?_⟩
    cases k with
    | true => exact iteT (h2 W ρ σ G1 H1 Q tk (re.mono g1) g1.ok p)
    | false => exact iteF (fin1 g1.ok p (.bl _))
  | _ => exact p.elim
theorem de_if (ht : DT TS X c t) (ha : DE TS X a fa) (hb : DE TS X b fb) : DE TS X (.IfExp c a b pos) (eIf t fa fb) := by
  refine ⟨?_⟩
  intro W ρ σ G H Q tk re ok post
  refine wpE_of (pe_ifExp (pt_wp X c) (pe_wp X a) (pe_wp X b)) ?_
  refine bindP (wp := fun R => wpT X c σ H R) back_E (fun Q' p => ht W ρ σ G H Q' tk re ok p) post fun v x G1 H1 _ g1 rx p => ?_
  subst rx
  cases v with
  | true => exact iteT (ha W ρ σ G1 H1 Q tk (re.mono g1) g1.ok p)
  | false => exact iteF (hb W ρ σ G1 H1 Q tk (re.mono g1) g1.ok p)
def eChain (g g' : D → D → Res D) (fa fb fc : En → Res D) : En → Res D := fun ρ => (fa ρ).bind fun x => (fb ρ).bind fun y => (g x y).bind fun z => (boolD z).bind fun k => if k then (fc ρ).bind fun w => g' y w else .ok (.bool false)
theorem chain_ok {op op' : CmpOp} {g g' : D → D → Res D} {W : WX} {ρ : En} {σ : L2.St} {G H : Hp} {Q : VK} (o1 : OpD TS X (compareOp op) g) (o2 : OpD TS X (compareOp op') g') (ha : DE TS X a fa) (hb : DE TS X b fb) (hc : DE TS X c fc)
    (tk : Takes X W) (re : RpE TS X.K G H ρ σ) (ok : Ok0 TS G H) (post : PostG (RelE X.K) TS X W σ G H (eChain g g' fa fb fc ρ) Q) : tChain (wpO X (compareOp op)) (wpO X (compareOp op')) (wpE X a) (wpE X b) (wpE X c) σ H Q := by
  refine bindP (wp := fun R => wpE X a σ H R) back_E (fun Q' p => ha W ρ σ G H Q' tk re ok p) post fun v x G1 H1 _ g1 rx p => ?_
  refine bindP (wp := fun R => wpE X b σ H1 R) back_E (fun Q' q => hb W ρ σ G1 H1 Q' tk (re.mono g1) g1.ok q) p fun u y G2 H2 _ g2 ry p => ?_
  refine bindP (wp := fun R => wpO X (compareOp op) v u H2 R) back_E (fun Q' q => o1 W σ v u x y G2 H2 Q' g2.ok (rx.mono g2.g) ry q) p fun z zd G3 H3 _ g3 rz p => ?_
  cases rz with
  | bl k =>
    refine ⟨k, rfl, ?_⟩
    cases k with
    | true =>
      refine iteT (bindP (wp := fun R => wpE X c σ H3 R) back_E (fun Q' q => hc W ρ σ G3 H3 Q' tk (((re.mono g1).mono g2).mono g3) g3.ok q) p fun w' wd G4 H4 _ g4 rw' p => ?_)
      exact o2 W σ u w' y wd G4 H4 Q g4.ok ((ry.mono g3.g).mono g4.g) rw' p
    | false => exact iteF (fin1 g3.ok p (.bl _))
  | _ => exact p.elim
theorem de_chain {op op' : CmpOp} {g g' : D → D → Res D} (o1 : OpD TS X (compareOp op) g) (o2 : OpD TS X (compareOp op') g') (ha : DE TS X a fa) (hb : DE TS X b fb) (hc : DE TS X c fc) (hm : lastMarks [op, op'] [b, c] = false := by with_unfolding_all rfl) :
    DE TS X (.Compare a [op, op'] [b, c] pos) (eChain g g' fa fb fc) := by
  refine ⟨?_⟩
  intro W ρ σ G H Q tk re ok post
  exact wpE_of (pe_chain (opr_wp _) (opr_wp _) (pe_wp X a) (pe_wp X b) (pe_wp X c) hm) (chain_ok o1 o2 ha hb hc tk re ok post)
theorem dt_chain {op op' : CmpOp} {g g' : D → D → Res D} (o1 : OpD TS X (compareOp op) g) (o2 : OpD TS X (compareOp op') g') (ha : DE TS X a fa) (hb : DE TS X b fb) (hc : DE TS X c fc) (hm : lastMarks [op, op'] [b, c] = false := by with_unfolding_all rfl) :
    DT TS X (.Compare a [op, op'] [b, c] pos) (tE boolD (eChain g g' fa fb fc)) := by
  refine ⟨?_⟩
  intro W ρ σ G H Q tk re ok post
  refine wpT_of (pt_chain (opr_wp _) (opr_wp _) (pe_wp X a) (pe_wp X b) (pe_wp X c) hm) ?_
  refine bindP (Ra := RelE X.K) (wp := fun R => tChain (wpO X (compareOp op)) (wpO X (compareOp op')) (wpE X a) (wpE X b) (wpE X c) σ H R) back_T (fun Q' p => chain_ok o1 o2 ha hb hc tk re ok p) post fun v x G1 H1 _ g1 rx p => ?_
  cases rx with
  | bl k => exact ⟨k, rfl, p k G1 H1 (Gr.refl g1.ok) rfl⟩
  | _ => exact p.elim
theorem da_nil : DA TS X [] a0 := by
  refine ⟨?_⟩
  intro W ρ σ G H Q tk re ok post
  exact wpA_of pa_nil (post [] G H (Gr.refl ok) .nil)
theorem da_cons (ha : DE TS X a fa) (hr : DA TS X es fr) (hs : starEach (a :: es) X.env = (false, eval a X.env) :: starEach es X.env := by rfl) : DA TS X (a :: es) (aC fa fr) := by
  refine ⟨?_⟩
  intro W ρ σ G H Q tk re ok post
  refine wpA_of (pa_cons (pe_wp X a) (pa_wp X es) hs) ?_
  refine bindP (wp := fun R => wpE X a σ H R) back_A (fun Q' p => ha W ρ σ G H Q' tk re ok p) post fun v x G1 H1 _ g1 rx p => ?_
  refine bindP (wp := fun R => wpA X es σ H1 R) back_A (fun Q' q => hr W ρ σ G1 H1 Q' tk (re.mono g1) g1.ok q) p fun vs xs G2 H2 _ g2 rxs p => ?_
  exact p _ G2 H2 (Gr.refl g2.ok) (.cons (rx.mono g2.g) rxs)
def tupD (ds : List D) : Res D := okL ds.length (.ok (.tuple ds))
theorem de_tup {x1} (ha : DA TS X es fr) : DE TS X (.Tuple es x1 pos) (eN tupD fr) := by
  refine ⟨?_⟩
  intro W ρ σ G H Q tk re ok post
  refine wpE_of (pe_tup (pa_wp X es)) ?_
  refine bindP (wp := fun R => wpA X es σ H R) back_E (fun Q' p => ha W ρ σ G H Q' tk re ok p) post fun vs xs G1 H1 _ g1 rxs p => ?_
  obtain ⟨h, p⟩ := okL_post p
  refine ⟨lim_line (by rw [rxs.len]; exact h), fun q hq => ?_⟩
  have g := Gr.new (o := .tup vs) g1.ok hq
  exact p _ _ _ g (.tup (.inl (.inl upd_same)) (rxs.mono g.g))
def lN (fr : En → Res (List D)) : En → Res (List D) := fun ρ => (fr ρ).bind fun ds => okL ds.length (.ok ds)
theorem dl_lst (ha : DA TS X es fr) : DL TS X (.List es pos) (lN fr) := by
  refine ⟨?_⟩
  intro W ρ σ G H Q tk re ok post
  refine wpE_of (pe_lst (pa_wp X es)) ?_
  refine bindP (wp := fun R => wpA X es σ H R) back_L (fun Q' p => ha W ρ σ G H Q' tk re ok p) post fun vs xs G1 H1 _ g1 rxs p => ?_
  obtain ⟨h, p⟩ := okL_post p
  refine ⟨lim_line (by rw [rxs.len]; exact h), fun q hq => ?_⟩
  exact p _ _ _ (Gr.own (o := .lst vs) g1.ok hq) ⟨q, vs, rfl, hq, fresh_back g1.ok.le hq, upd_same, rxs⟩
theorem atI_rel {K : PySem.W.Frag} {G : Hp} {xs : List V} {ds : List D} {i : Int} {d : D} (r : Rps K G xs ds) (h : atI ds i = some d) : ∃ v, atI xs i = some v ∧ Rp K G v d := by
  unfold atI at h ⊢
  rw [r.len]
  cases e : ixN ds.length i with
  | none =>
    rw [e] at h
    cases h
  | some j =>
    rw [e] at h
    exact r.at h
theorem de_ix (ha : DE TS X a fa) (hb : DE TS X b fb) (hs : PlainIx b := by exact fun _ _ => rfl) : DE TS X (.Subscript a b pos) (e2 atD fa fb) := by
  refine ⟨?_⟩
  intro W ρ σ G H Q tk re ok post
  refine wpE_of (pe_ix ixr_wp (pe_wp X a) (pe_wp X b) hs) (two ha hb tk re ok post fun v u x y G2 H2 ok2 rx ry p => ?_)
  unfold atD at p
  split at p
  · obtain ⟨l, xs, rfl, h, r⟩ := rx.list_inv
    cases ry
    split at p
    · rename_i d hd
      obtain ⟨v, h1, h2⟩ := atI_rel r hd
      exact wpI_of ix_list ⟨l, xs, _, v, rfl, rfl, ex_l ok2.le h, h1, fin1 ok2 p h2⟩
    · exact p.elim
  · obtain ⟨l, xs, rfl, h, r⟩ := rx.tup_inv
    cases ry
    split at p
    · rename_i d hd
      obtain ⟨v, h1, h2⟩ := atI_rel r hd
      exact wpI_of ix_tup ⟨l, xs, _, v, rfl, rfl, ex_t ok2.le h, h1, fin1 ok2 p h2⟩
    · exact p.elim
  · cases rx
    cases ry
    obtain ⟨hl, p⟩ := okL_post p
    split at p
    · rename_i d hd
      exact wpI_of ix_str ⟨_, _, d, rfl, rfl, lim_line hl, hd, fin1 ok2 p (.str _)⟩
    · exact p.elim
  · exact p.elim
end
end Pyr
set_option Elab.async false
set_option linter.all false
set_option maxRecDepth 100000
set_option maxHeartbeats 1000000
namespace Pyr
open PySem PySem.Spec PyProof.Rows L2 Evl
def cutG {α : Type} (xs : List α) (lo hi : Option Int) : List α := (xs.drop (HT.sIx xs.length 0 lo)).take (HT.sIx xs.length xs.length hi - HT.sIx xs.length 0 lo)
theorem Rps.slice {K : PySem.W.Frag} {G : Hp} {xs : List V} {ds : List D} (r : Rps K G xs ds) (lo hi : Option Int) : Rps K G (cutG xs lo hi) (cutG ds lo hi) := by
  unfold cutG
  rw [r.len]
  exact (r.off _).cut _
def wpPO (X : Cx) (oe : Option Expr) : TO := match oe with
  | none => tNoPart
  | some e => tPart (wpE X e)
theorem po_wp (X : Cx) : ∀ oe : Option Expr, PO X oe (wpPO X oe)
  | none => po_none
  | some e => po_some (pe_wp X e)
def optI : D → Res (Option Int)
  | .int i => .ok (some i)
  | _ => .bad
def oNone : En → Res (Option Int) := fun _ => .ok none
def oSome (fa : En → Res D) : En → Res (Option Int) := fun ρ => (fa ρ).bind optI
abbrev RelO : Hp → Hp → Hp → Option Int → Option Int → Prop := fun _ _ _ v b => v = b
theorem back_O : Back RelO := fun _ _ _ _ _ _ _ h => h
structure DO (TS : TabList) (X : Cx) (oe : Option Expr) (f : En → Res (Option Int)) : Prop where
  run : ∀ (W : WX) (ρ : En) (σ : L2.St) (G H : Hp) (Q : Option Int → Hp → Prop), Takes X W → RpE TS X.K G H ρ σ → Ok0 TS G H → PostG RelO TS X W σ G H (f ρ) Q → wpPO X oe σ H Q
instance {TS : TabList} {X : Cx} {oe : Option Expr} {f : En → Res (Option Int)} : CoeFun (DO TS X oe f) fun _ => ∀ (W : WX) (ρ : En) (σ : L2.St) (G H : Hp) (Q : Option Int → Hp → Prop), Takes X W → RpE TS X.K G H ρ σ → Ok0 TS G H → PostG RelO TS X W σ G H (f ρ) Q → wpPO X oe σ H Q := ⟨DO.run⟩
def sliceD (x : D) (lo hi : Option Int) : Res D := match x with
  | .str z => okL z.length (.ok (.str (cutS z lo hi)))
  | .tuple ds => .ok (.tuple (cutG ds lo hi))
  | .list ds => .ok (.list (cutG ds lo hi))
  | _ => .bad
def eSlice (fa : En → Res D) (fl fh : En → Res (Option Int)) : En → Res D := fun ρ => (fa ρ).bind fun x => (fl ρ).bind fun lo => (fh ρ).bind fun hi => sliceD x lo hi
def listD : D → Res (List D)
  | .list ds => .ok ds
  | _ => .bad
def lSlice (fa : En → Res D) (fl fh : En → Res (Option Int)) : En → Res (List D) := fun ρ => (fa ρ).bind fun x => (fl ρ).bind fun lo => (fh ρ).bind fun hi => (listD x).bind fun ds => .ok (cutG ds lo hi)
section
variable {TS : TabList} {X : Cx} {a b c : Expr} {fa fb fc : En → Res D} {t u : En → Res Bool} {es rest : List Expr} {fr : En → Res (List D)} {pos p2 : Pos} {g : D → Res D} {g2 : D → D → Res D} {lo hi : Option Expr} {fl fh : En → Res (Option Int)}
theorem do_none : DO TS X none oNone := .mk fun W ρ σ G H Q tk re ok post => post none G H (Gr.refl ok) rfl
theorem do_some (ha : DE TS X a fa) : DO TS X (some a) (oSome fa) := by
  refine ⟨?_⟩
  intro W ρ σ G H Q tk re ok post
  refine bindP (wp := fun R => wpE X a σ H R) back_O (fun Q' p => ha W ρ σ G H Q' tk re ok p) post fun v x G1 H1 _ g1 rx p => ?_
  unfold optI at p
  split at p
  · cases rx
    exact ⟨_, rfl, p _ G1 H1 (Gr.refl g1.ok) rfl⟩
  · exact p.elim
theorem three {β γ : Type} {Rel : Hp → Hp → Hp → γ → β → Prop} (bk : Back Rel) {k : D → Option Int → Option Int → Res β} {W : WX} {ρ : En} {σ : L2.St} {G H : Hp} {Q : γ → Hp → Prop} {R : V → Option Int → Option Int → Hp → Prop} (ha : DE TS X a fa) (hl : DO TS X lo fl) (hh : DO TS X hi fh) (tk : Takes X W) (re : RpE TS X.K G H ρ σ) (ok : Ok0 TS G H)
    (post : PostG Rel TS X W σ G H ((fa ρ).bind fun x => (fl ρ).bind fun lo => (fh ρ).bind fun hi => k x lo hi) Q)
    (next : ∀ v x l h G2 H2, Gr TS G H G2 H2 → Rp X.K G2 v x → PostG Rel TS X W σ G2 H2 (k x l h) Q → R v l h H2) : wpE X a σ H fun v H1 => wpPO X lo σ H1 fun l H2 => wpPO X hi σ H2 fun h H3 => R v l h H3 := by
  refine bindP (wp := fun R => wpE X a σ H R) bk (fun Q' p => ha W ρ σ G H Q' tk re ok p) post fun v x G1 H1 _ g1 rx p => ?_
  refine bindP (wp := fun R => wpPO X lo σ H1 R) bk (fun Q' q => hl W ρ σ G1 H1 Q' tk (re.mono g1) g1.ok q) p fun l l' G2 H2 _ g2 rl p => ?_
  refine bindP (wp := fun R => wpPO X hi σ H2 R) bk (fun Q' q => hh W ρ σ G2 H2 Q' tk ((re.mono g1).mono g2) g2.ok q) p fun h h' G3 H3 _ g3 rh p => ?_
  subst rl
  subst rh
  exact next v x l h G3 H3 ((g1.trans g2).trans g3) ((rx.mono g2.g).mono g3.g) p
theorem de_slice (ha : DE TS X a fa) (hl : DO TS X lo fl) (hh : DO TS X hi fh) : DE TS X (.Subscript a (.Slice lo hi none p2) pos) (eSlice fa fl fh) := by
  refine ⟨?_⟩
  intro W ρ σ G H Q tk re ok post
  refine wpE_of (pe_slice slr_wp (pe_wp X a) (po_wp X lo) (po_wp X hi)) (three (Rel := RelE X.K) back_E ha hl hh tk re ok post fun v x l h G2 H2 g2 rx p => ?_)
  have ok2 := g2.ok
  unfold sliceD at p
  split at p
  · cases rx
    obtain ⟨hl, p⟩ := okL_post p
    exact wpS_of sl_str ⟨_, rfl, lim_line hl, fin1 ok2 p (.str _)⟩
  · obtain ⟨q, xs, rfl, hq, r⟩ := rx.tup_inv
    refine wpS_of sl_tupA ⟨q, xs, rfl, ex_t ok2.le hq, fun ⟨w1, w2⟩ => ?_, fun _ q' hq' => ?_⟩
    · refine fin1 ok2 p (.tup hq ?_)
      have z := r.slice l h
      unfold cutG at z
      rw [w1, w2, List.drop_zero, Nat.sub_zero, List.take_length] at z
      exact z
    · have g := Gr.new (o := .tup (cutV xs l h)) ok2 hq'
      exact p _ _ _ g (.tup (.inl (.inl upd_same)) ((r.slice l h).mono g.g))
  · obtain ⟨q, xs, rfl, hq, r⟩ := rx.list_inv
    refine wpS_of sl_list ⟨q, xs, rfl, ex_l ok2.le hq, fun q' hq' => ?_⟩
    have g := Gr.new (o := .lst (cutV xs l h)) ok2 hq'
    exact p _ _ _ g (.lst (.inl (.inl upd_same)) ((r.slice l h).mono g.g))
  · exact p.elim
structure CallD (TS : TabList) (X : Cx) (f : Value) (g : List D → Res D) : Prop where
  run : ∀ (W : WX) (σ : L2.St) (vs : List V) (ds : List D) (G H : Hp) (Q : VK), Ok0 TS G H → Rps X.K G vs ds → PostG (RelE X.K) TS X W σ G H (g ds) Q → wpC X f vs H Q
instance {TS : TabList} {X : Cx} {f : Value} {g : List D → Res D} : CoeFun (CallD TS X f g) fun _ => ∀ (W : WX) (σ : L2.St) (vs : List V) (ds : List D) (G H : Hp) (Q : VK), Ok0 TS G H → Rps X.K G vs ds → PostG (RelE X.K) TS X W σ G H (g ds) Q → wpC X f vs H Q := ⟨CallD.run⟩
structure CallL (TS : TabList) (X : Cx) (f : Value) (g : List D → Res (List D)) : Prop where
  run : ∀ (W : WX) (σ : L2.St) (vs : List V) (ds : List D) (G H : Hp) (Q : VK), Ok0 TS G H → Rps X.K G vs ds → PostG (RelL X.K) TS X W σ G H (g ds) Q → wpC X f vs H Q
instance {TS : TabList} {X : Cx} {f : Value} {g : List D → Res (List D)} : CoeFun (CallL TS X f g) fun _ => ∀ (W : WX) (σ : L2.St) (vs : List V) (ds : List D) (G H : Hp) (Q : VK), Ok0 TS G H → Rps X.K G vs ds → PostG (RelL X.K) TS X W σ G H (g ds) Q → wpC X f vs H Q := ⟨CallL.run⟩
def lF (g : List D → Res (List D)) (fa : En → Res (List D)) : En → Res (List D) := fun ρ => (fa ρ).bind g
section
variable {x : Str} {p : Pos} {id T : String} {gN : List D → Res D} {gL : List D → Res (List D)}
theorem de_callB (h : CallD TS X (.builtin id) gN) (hg : Gl X x) (hm : X.mg x = none) (hv : bootBuiltins x = some (.builtin id)) (ha : DA TS X (a :: es) fr) (hn : x ≠ "__name__" := by decide) (hdb : (x == ("__debug__" : Str)) = false := by decide)
    (he : starEach (a :: es) X.env = (false, eval a X.env) :: starEach es X.env := by rfl) (hpl : (backTo pos (starEach es X.env)).any (·.1) = false := by rfl) : DE TS X (.Call (.Name x p) (a :: es) [] pos) (eN gN fr) := by
  refine ⟨?_⟩
  intro W ρ σ G H Q tk re ok post
  refine wpE_of (pe_callB (cr_wp _) hg hm hv (pa_wp X (a :: es)) hn hdb he hpl) ?_
  exact bindP (wp := fun R => wpA X (a :: es) σ H R) back_E (fun Q' p => ha W ρ σ G H Q' tk re ok p) post fun vs ds G1 H1 _ g1 rs p => h W σ vs ds G1 H1 Q g1.ok rs p
theorem de_callTy (h : CallD TS X (.type T) gN) (hg : Gl X x) (hm : X.mg x = none) (hv : bootBuiltins x = some (.type T)) (ha : DA TS X (a :: es) fr) (hn : x ≠ "__name__" := by decide) (hdb : (x == ("__debug__" : Str)) = false := by decide)
    (he : starEach (a :: es) X.env = (false, eval a X.env) :: starEach es X.env := by rfl) (hpl : (backTo pos (starEach es X.env)).any (·.1) = false := by rfl) : DE TS X (.Call (.Name x p) (a :: es) [] pos) (eN gN fr) := by
  refine ⟨?_⟩
  intro W ρ σ G H Q tk re ok post
  refine wpE_of (pe_callTy (cr_wp _) hg hm hv (pa_wp X (a :: es)) hn hdb he hpl) ?_
  exact bindP (wp := fun R => wpA X (a :: es) σ H R) back_E (fun Q' p => ha W ρ σ G H Q' tk re ok p) post fun vs ds G1 H1 _ g1 rs p => h W σ vs ds G1 H1 Q g1.ok rs p
theorem dl_callB (h : CallL TS X (.builtin id) gL) (hg : Gl X x) (hm : X.mg x = none) (hv : bootBuiltins x = some (.builtin id)) (ha : DA TS X (a :: es) fr) (hn : x ≠ "__name__" := by decide) (hdb : (x == ("__debug__" : Str)) = false := by decide)
    (he : starEach (a :: es) X.env = (false, eval a X.env) :: starEach es X.env := by rfl) (hpl : (backTo pos (starEach es X.env)).any (·.1) = false := by rfl) : DL TS X (.Call (.Name x p) (a :: es) [] pos) (lF gL fr) := by
  refine ⟨?_⟩
  intro W ρ σ G H Q tk re ok post
  refine wpE_of (pe_callB (cr_wp _) hg hm hv (pa_wp X (a :: es)) hn hdb he hpl) ?_
  exact bindP (wp := fun R => wpA X (a :: es) σ H R) back_L (fun Q' p => ha W ρ σ G H Q' tk re ok p) post fun vs ds G1 H1 _ g1 rs p => h W σ vs ds G1 H1 Q g1.ok rs p
theorem dl_callTy (h : CallL TS X (.type T) gL) (hg : Gl X x) (hm : X.mg x = none) (hv : bootBuiltins x = some (.type T)) (ha : DA TS X (a :: es) fr) (hn : x ≠ "__name__" := by decide) (hdb : (x == ("__debug__" : Str)) = false := by decide)
    (he : starEach (a :: es) X.env = (false, eval a X.env) :: starEach es X.env := by rfl) (hpl : (backTo pos (starEach es X.env)).any (·.1) = false := by rfl) : DL TS X (.Call (.Name x p) (a :: es) [] pos) (lF gL fr) := by
  refine ⟨?_⟩
  intro W ρ σ G H Q tk re ok post
  refine wpE_of (pe_callTy (cr_wp _) hg hm hv (pa_wp X (a :: es)) hn hdb he hpl) ?_
  exact bindP (wp := fun R => wpA X (a :: es) σ H R) back_L (fun Q' p => ha W ρ σ G H Q' tk re ok p) post fun vs ds G1 H1 _ g1 rs p => h W σ vs ds G1 H1 Q g1.ok rs p
end
def oneD (g : D → Res D) : List D → Res D
  | [d] => g d
  | _ => .bad
theorem Rps.one_inv {K : PySem.W.Frag} {G : Hp} {vs : List V} {d : D} (r : Rps K G vs [d]) : ∃ v, vs = [v] ∧ Rp K G v d := by
  cases r with
  | cons h r =>
    cases r
    exact ⟨_, rfl, h⟩
theorem cd_len : CallD TS X (.builtin "len") (oneD lenD) := by
  refine ⟨?_⟩
  intro W σ vs ds G H Q ok rs p
  unfold oneD at p
  split at p
  · obtain ⟨v, rfl, r⟩ := rs.one_inv
    unfold lenD at p
    split at p
    · obtain ⟨q, xs, rfl, hq, r⟩ := r.list_inv
      exact wpC_of call_len_seq ⟨q, xs, rfl, .inl (ex_l ok.le hq), by rw [r.len]; exact fin1 ok p (.int _)⟩
    · obtain ⟨q, xs, rfl, hq, r⟩ := r.tup_inv
      exact wpC_of call_len_seq ⟨q, xs, rfl, .inr (ex_t ok.le hq), by rw [r.len]; exact fin1 ok p (.int _)⟩
    · cases r
      obtain ⟨h, p⟩ := okL_post p
      exact wpC_of call_len_str ⟨_, rfl, lim_line h, fin1 ok p (.int _)⟩
    · exact p.elim
  · exact p.elim
def itemsD : D → Res (List D)
  | .list ds => .ok ds
  | .tuple ds => .ok ds
  | _ => .bad
def oneL (g : D → Res (List D)) : List D → Res (List D)
  | [d] => g d
  | _ => .bad
theorem cl_list : CallL TS X (.type "list") (oneL itemsD) := by
  refine ⟨?_⟩
  intro W σ vs ds G H Q ok rs p
  unfold oneL at p
  split at p
  · obtain ⟨v, rfl, r⟩ := rs.one_inv
    unfold itemsD at p
    split at p
    · obtain ⟨q, xs, rfl, hq, r⟩ := r.list_inv
      exact wpC_of call_list_of ⟨q, xs, rfl, .inl (ex_l ok.le hq), fun l hl => p _ _ _ (Gr.own (o := .lst xs) ok hl) ⟨l, xs, rfl, hl, fresh_back ok.le hl, upd_same, r⟩⟩
    · obtain ⟨q, xs, rfl, hq, r⟩ := r.tup_inv
      exact wpC_of call_list_of ⟨q, xs, rfl, .inr (ex_t ok.le hq), fun l hl => p _ _ _ (Gr.own (o := .lst xs) ok hl) ⟨l, xs, rfl, hl, fresh_back ok.le hl, upd_same, r⟩⟩
    · exact p.elim
  · exact p.elim
theorem cd_tuple : CallD TS X (.type "tuple") (oneD fun d => (itemsD d).map .tuple) := by
  refine ⟨?_⟩
  intro W σ vs ds G H Q ok rs p
  unfold oneD at p
  split at p
  · obtain ⟨v, rfl, r⟩ := rs.one_inv
    rename_i d
    have p : PostG (RelE X.K) TS X W σ G H ((itemsD d).map .tuple) Q := p
    unfold itemsD at p
    split at p
    · obtain ⟨q, xs, rfl, hq, r⟩ := r.list_inv
      refine wpC_of call_tuple_of ⟨q, xs, rfl, .inl ⟨ex_l ok.le hq, fun l hl => ?_⟩⟩
      have g := Gr.new (o := .tup xs) ok hl
      exact p _ _ _ g (.tup (.inl (.inl upd_same)) (r.mono g.g))
    · obtain ⟨q, xs, rfl, hq, r⟩ := r.tup_inv
      exact wpC_of call_tuple_of ⟨q, xs, rfl, .inr ⟨ex_t ok.le hq, fin1 ok p (.tup hq r)⟩⟩
    · exact p.elim
  · exact p.elim
def tyN : D → String
  | .none => "NoneType"
  | .bool _ => "bool"
  | .int _ => "int"
  | .str _ => "str"
  | .list _ => "list"
  | .tuple _ => "tuple"
  | .dict es => if ptB es then "tuple" else "dict"
def isiB (T : String) (d : D) : Bool := tyN d == T || (T == "int" && tyN d == "bool")
def isiD (T : String) : D → Res D := fun d => .ok (.bool (isiB T d))
def KitOk (T : String) : Prop := ∀ d : D, kitB (tyN d) T = some (isiB T d)
theorem kit_all {T : String} (h : (["NoneType", "bool", "int", "str", "list", "tuple", "dict"].all fun t => decide (kitB t T = some (t == T || (T == "int" && t == "bool")))) = true) : KitOk T := fun d => by
  have m : tyN d ∈ ["NoneType", "bool", "int", "str", "list", "tuple", "dict"] := by
    cases d with
    | dict es => by_cases h : ptB es = true <;> simp [tyN, h]
    | _ => simp [tyN]
  exact of_decide_eq_true (List.all_eq_true.mp h _ m)
theorem kit_str : KitOk "str" := kit_all (by decide +kernel)
theorem tyX_of {K : PySem.W.Frag} {H : Hp} {v : V} {d : D} (r : Rp K H v d) : TyX K H v (.type (tyN d)) := by
  cases r with
  | non => exact .base .non
  | bl b => exact .base (.bl b)
  | int i => exact .base (.int i)
  | str x => exact .base (.str x)
  | lst h _ =>
    rcases h with (h | ⟨o, h⟩) | ⟨o, its, n, h, hc, _⟩
    · exact .base (.lst h)
    · exact .base (.frz h)
    · exact .kList h hc
  | tup h _ =>
    rcases h with (h | ⟨o, h⟩) | ⟨o, its, n, h, hc, _⟩
    · exact .base (.tup h)
    · exact .fTuple h
    · exact .kTuple h hc
  | dic h r =>
    have e : tyN (.dict _) = "dict" := if_neg (by rw [r.notPt]; exact Bool.false_ne_true)
    rw [e]
    exact .base (.dK h)
  | ptu h _ _ => exact .fTuple h
theorem de_isi {T : String} {xT : Str} {p p1 : Pos} (kt : KitOk T) (hg : Gl X "isinstance") (hm : X.mg "isinstance" = none) (hgT : Gl X xT) (hmT : X.mg xT = none) (hvT : bootBuiltins xT = some (.type T)) (ha : DE TS X a fa)
    (hnT : xT ≠ "__name__" := by decide) (hdT : (xT == ("__debug__" : Str)) = false := by decide)
    (he : starEach [a, .Name xT p1] X.env = (false, eval a X.env) :: starEach [.Name xT p1] X.env := by rfl) (he2 : starEach [.Name xT p1] X.env = (false, eval (.Name xT p1) X.env) :: starEach [] X.env := by rfl) (hpl : (backTo pos (starEach [.Name xT p1] X.env)).any (·.1) = false := by rfl) :
    DE TS X (.Call (.Name "isinstance" p) [a, .Name xT p1] [] pos) (e1 (isiD T) fa) := by
  refine ⟨?_⟩
  intro W ρ σ G H Q tk re ok post
  refine wpE_of (pe_callB call_isi hg hm (by decide +kernel) (pa_cons (pe_wp X a) (pa_cons (pe_bltn (v := .ty T) hgT hmT hvT rfl hnT hdT) pa_nil he2) he) (by decide) (by decide) he hpl) ?_
  refine bindP (wp := fun R => wpE X a σ H R) back_E (fun Q' p => ha W ρ σ G H Q' tk re ok p) post fun v x G1 H1 _ g1 rx p => ?_
  exact ⟨v, .ty T, _, _, _, rfl, .ty T, tyX_of (rx.mono g1.ok.le), kit_ty (kt x), fin1 g1.ok p (.bl _)⟩
end
inductive RpOs (K : PySem.W.Frag) (G H : Hp) : List Addr → List V → List (List D) → Prop
  | nil : RpOs K G H [] [] []
  | cons {a : Addr} {vs : List V} {ds : List D} {l : List Addr} {us : List V} {dss : List (List D)} : H a = some (.lst vs) → Rps K G vs ds → a ∉ l → RpOs K G H l us dss → RpOs K G H (a :: l) (.ref a :: us) (ds :: dss)
theorem RpOs.keep {K : PySem.W.Frag} {G G' H H' : Hp} (e : Ex G G') : ∀ {l : List Addr} {us : List V} {dss : List (List D)}, (∀ a ∈ l, ∀ vs, H a = some (.lst vs) → H' a = some (.lst vs)) → RpOs K G H l us dss → RpOs K G' H' l us dss
  | _, _, _, _, .nil => .nil
  | _, _, _, h, .cons h1 r n q => .cons (h _ (by simp) _ h1) (r.mono e) n (RpOs.keep e (fun a ha => h a (List.mem_cons_of_mem _ ha)) q)
theorem RpOs.there {K : PySem.W.Frag} {G H : Hp} : ∀ {l : List Addr} {us : List V} {dss : List (List D)}, RpOs K G H l us dss → ∀ a ∈ l, ∃ vs, H a = some (.lst vs)
  | _, _, _, .nil, a, ha => by cases ha
  | _, _, _, .cons h1 _ _ q, a, ha => by
    rcases List.mem_cons.mp ha with rfl | ha
    · exact ⟨_, h1⟩
    · exact q.there a ha
theorem RpOs.count {TS : TabList} {K : PySem.W.Frag} {H : Hp} : ∀ {l : List Addr} {us : List V} {dss : List (List D)} {G : Hp}, RpOs K G H l us dss → Ok0 TS G H → (∀ a ∈ l, G a = none) → ∃ G1, Ex G G1 ∧ Ok0 TS G1 H ∧ Rps K G1 us (dss.map .list) ∧ ∀ a, G1 a ≠ none → G a ≠ none ∨ a ∈ l
  | _, _, _, G, .nil, ok, _ => ⟨G, Ex.refl G, ok, .nil, fun _ h => .inl h⟩
  | _, _, _, G, .cons (a := a) h1 r n q, ok, h0 => by
    obtain ⟨e1, ok1⟩ := Gr.count ok (h0 a (by simp)) h1
    obtain ⟨G1, e2, ok2, rs, bk⟩ := RpOs.count (q.keep e1 fun _ _ _ h => h) ok1 fun b hb => by
      rw [upd_ne fun z => n (by rw [← z]; exact hb)]
      exact h0 b (List.mem_cons_of_mem _ hb)
    refine ⟨G1, e1.trans e2, ok2, .cons (.lst (.inl (.inl (e2 _ _ upd_same))) (r.mono (e1.trans e2))) rs, fun b hb => ?_⟩
    rcases bk b hb with h | h
    · by_cases z : b = a
      · exact .inr (List.mem_cons.mpr (.inl z))
      · rw [upd_ne z] at h
        exact .inl h
    · exact .inr (List.mem_cons_of_mem _ h)
def RelU (K : PySem.W.Frag) : Hp → Hp → Hp → V → List (List D) → Prop := fun H0 G' H' v dss => ∃ p l us, v = .ref p ∧ H0 p = none ∧ G' p = none ∧ H' p = some (.tup us) ∧ p ∉ l ∧ RpOs K G' H' l us dss ∧ ∀ a ∈ l, H0 a = none ∧ G' a = none
theorem RelU.count {TS : TabList} {K : PySem.W.Frag} {H0 G H : Hp} {v : V} {dss : List (List D)} (r : RelU K H0 G H v dss) (ok : Ok0 TS G H) : ∃ G1, Ex G G1 ∧ Ok0 TS G1 H ∧ Rp K G1 v (.tuple (dss.map .list)) ∧ ∀ a, G1 a ≠ none → G a ≠ none ∨ H0 a = none := by
  obtain ⟨p, l, us, rfl, h0, g0, hp, np, r, f⟩ := r
  obtain ⟨e1, ok1⟩ := Gr.count ok g0 hp
  obtain ⟨G1, e2, ok2, rs, bk⟩ := RpOs.count (r.keep e1 fun _ _ _ h => h) ok1 fun b hb => by
    rw [upd_ne fun z => np (by rw [← z]; exact hb)]
    exact (f b hb).2
  refine ⟨G1, e1.trans e2, ok2, .tup (.inl (.inl (e2 _ _ upd_same))) rs, fun b hb => ?_⟩
  rcases bk b hb with h | h
  · by_cases z : b = p
    · exact .inr (by rw [z]; exact h0)
    · rw [upd_ne z] at h
      exact .inl h
  · exact .inr (f b h).1
def RelM (K : PySem.W.Frag) : Hp → Hp → Hp → V → List D × D × List D → Prop := fun H0 G' H' v m => ∃ p a b w, v = .ref p ∧ H0 p = none ∧ G' p = none ∧ H' p = some (.tup [.ref a, w, .ref b]) ∧ p ∉ [a, b] ∧ RpOs K G' H' [a, b] [.ref a, .ref b] [m.1, m.2.2] ∧ Rp K G' w m.2.1 ∧ ∀ c ∈ [a, b], H0 c = none ∧ G' c = none
theorem rps_mid {K : PySem.W.Frag} {G : Hp} {u w v : V} {x d y : D} (r : Rps K G [u, v] [x, y]) (rw : Rp K G w d) : Rps K G [u, w, v] [x, d, y] := by
  cases r with
  | cons r1 r =>
    cases r with
    | cons r2 r => exact .cons r1 (.cons rw (.cons r2 r))
theorem RelM.count {TS : TabList} {K : PySem.W.Frag} {H0 G H : Hp} {v : V} {m : List D × D × List D} (r : RelM K H0 G H v m) (ok : Ok0 TS G H) : ∃ G1, Ex G G1 ∧ Ok0 TS G1 H ∧ Rp K G1 v (.tuple [.list m.1, m.2.1, .list m.2.2]) ∧ ∀ a, G1 a ≠ none → G a ≠ none ∨ H0 a = none := by
  obtain ⟨p, a, b, w, rfl, h0, g0, hp, np, r, rw, f⟩ := r
  obtain ⟨e1, ok1⟩ := Gr.count ok g0 hp
  obtain ⟨G1, e2, ok2, rs, bk⟩ := RpOs.count (r.keep e1 fun _ _ _ h => h) ok1 fun b hb => by
    rw [upd_ne fun z => np (by rw [← z]; exact hb)]
    exact (f b hb).2
  refine ⟨G1, e1.trans e2, ok2, .tup (.inl (.inl (e2 _ _ upd_same))) (rps_mid rs (rw.mono (e1.trans e2))), fun b hb => ?_⟩
  rcases bk b hb with h | h
  · by_cases z : b = p
    · exact .inr (by rw [z]; exact h0)
    · rw [upd_ne z] at h
      exact .inl h
  · exact .inr (f b h).1
inductive RV where
  | val (d : D)
  | own (ds : List D)
  | ownU (dss : List (List D))
  | ownM (xs : List D) (d : D) (ys : List D)
def RV.d : RV → D
  | .val d => d
  | .own ds => .list ds
  | .ownU dss => .tuple (dss.map .list)
  | .ownM xs d ys => .tuple [.list xs, d, .list ys]
def PostF (TS : TabList) (K : PySem.W.Frag) (mg : Str → Option Value) (G H : Hp) (r : Res RV) (Q : VK) (E : XK) : Prop := match r with
  | .alt f => ∀ i, PostF TS K mg G H (f i) Q E
  | .ok (.val d) => ∀ v G' H', Gr TS G H G' H' → Rp K G' v d → Q v H'
  | .ok (.own ds) => ∀ v G' H', Gr TS G H G' H' → RelL K H G' H' v ds → Q v H'
  | .ok (.ownU dss) => ∀ v G' H', Gr TS G H G' H' → RelU K H G' H' v dss → Q v H'
  | .ok (.ownM xs d ys) => ∀ v G' H', Gr TS G H G' H' → RelM K H G' H' v (xs, d, ys) → Q v H'
  | .exc c fs => ∀ (C : Addr) (d : Option Addr) (G' H' : Hp), mg c = some (.ref C) → Gr TS G H G' H' → ExcRep K G' H' d fs → E (.ref C) d H'
  | .bad => False
def spD (TS : TabList) (K : PySem.W.Frag) (mg : Str → Option Value) (m : List D → Res RV) : Sp := fun vs H Q E => ∃ G ds, Rps K G vs ds ∧ Ok0 TS G H ∧ PostF TS K mg G H (m ds) Q E
structure Known (TS : TabList) (P : Program) (w : World) (K : PySem.W.Frag) (mg : Str → Option Value) (base : Heap) (k : Nat) (x : Str) (ps : List Str) (m : List D → Res RV) : Prop where
  ex : ∃ f fd, FnOk P w K mg base (L2N.CX P w) k f fd ps (spD TS K mg m) ∧ mg x = some (.ref f) ∧ PySem.W.keepIn K (.ref f) = true ∧ Binds K fd ps []
def eCall (m : List D → Res RV) (fr : En → Res (List D)) : En → Res D := fun ρ => (fr ρ).bind fun ds => (m ds).map RV.d
def ownD : RV → Res (List D)
  | .own ds => .ok ds
  | _ => .bad
def lCall (m : List D → Res RV) (fr : En → Res (List D)) : En → Res (List D) := fun ρ => (fr ρ).bind fun ds => (m ds).bind ownD
section
variable {TS : TabList} {X : Cx} {a : Expr} {es : List Expr} {fr : En → Res (List D)} {pos p : Pos} {x : Str} {ps : List Str} {k k' : Nat} {m : List D → Res RV}
theorem de_call (F : Known TS X.prog X.w X.K X.mg X.base k x ps m) (hr : Room k' X.A) (hk : k ≤ k') (hg : Gl X x) (ha : DA TS X (a :: es) fr) (hdb : (x == ("__debug__" : Str)) = false := by decide)
    (he : starEach (a :: es) X.env = (false, eval a X.env) :: starEach es X.env := by rfl) (hpl : (backTo pos (starEach es X.env)).any (·.1) = false := by rfl) : DE TS X (.Call (.Name x p) (a :: es) [] pos) (eCall m fr) := by
  refine ⟨?_⟩
  intro W ρ σ G H Q tk re ok post
  obtain ⟨f, fd, F, hm, hkp, hb⟩ := F.ex
  refine wpE_of (pe_callSD F (hr.mono hk) hg hm hkp hb .nil (passAt tk) (pa_wp X (a :: es)) hdb he hpl) ?_
  refine bindP (wp := fun R => wpA X (a :: es) σ H R) back_E (fun Q' p => ha W ρ σ G H Q' tk re ok p) post fun vs ds G1 H1 _ g1 rs p => ?_
  rw [List.append_nil]
  refine ⟨G1, ds, rs, g1.ok, ?_⟩
  clear F hm
  revert p
  generalize m ds = r
  intro p
  induction r with
  | ok r =>
    cases r with
    | val d => exact p
    | own ys =>
      rintro v G' H' g ⟨q, ws, rfl, h0, g0, hp, r⟩
      obtain ⟨e1, e2⟩ := Gr.count g.ok g0 hp
      refine p _ _ H' ⟨g.g.trans e1, g.h, fun a q' => ?_, e2⟩ (.lst (.inl (.inl upd_same)) (r.mono e1))
      by_cases z : a = q
      · subst z
        exact .inr h0
      · rw [upd_ne z] at q'
        exact g.nw a q'
    | ownU dss =>
      intro v G' H' g r
      obtain ⟨G1', e1, e2, rp, bk⟩ := r.count g.ok
      exact p _ _ H' ⟨g.g.trans e1, g.h, fun a q' => (bk a q').elim (fun z => g.nw a z) .inr, e2⟩ rp
    | ownM xs d ys =>
      intro v G' H' g r
      obtain ⟨G1', e1, e2, rp, bk⟩ := r.count g.ok
      exact p _ _ H' ⟨g.g.trans e1, g.h, fun a q' => (bk a q').elim (fun z => g.nw a z) .inr, e2⟩ rp
  | exc c fs => exact p
  | bad => exact p
  | alt f ih => exact fun i => ih i (p i)
theorem dl_call (F : Known TS X.prog X.w X.K X.mg X.base k x ps m) (hr : Room k' X.A) (hk : k ≤ k') (hg : Gl X x) (ha : DA TS X (a :: es) fr) (hdb : (x == ("__debug__" : Str)) = false := by decide)
    (he : starEach (a :: es) X.env = (false, eval a X.env) :: starEach es X.env := by rfl) (hpl : (backTo pos (starEach es X.env)).any (·.1) = false := by rfl) : DL TS X (.Call (.Name x p) (a :: es) [] pos) (lCall m fr) := by
  refine ⟨?_⟩
  intro W ρ σ G H Q tk re ok post
  obtain ⟨f, fd, F, hm, hkp, hb⟩ := F.ex
  refine wpE_of (pe_callSD F (hr.mono hk) hg hm hkp hb .nil (passAt tk) (pa_wp X (a :: es)) hdb he hpl) ?_
  refine bindP (wp := fun R => wpA X (a :: es) σ H R) back_L (fun Q' p => ha W ρ σ G H Q' tk re ok p) post fun vs ds G1 H1 _ g1 rs p => ?_
  rw [List.append_nil]
  refine ⟨G1, ds, rs, g1.ok, ?_⟩
  clear F hm
  revert p
  generalize m ds = r
  intro p
  induction r with
  | ok r =>
    cases r with
    | val d => exact p.elim
    | own ys => exact p
    | ownU dss => exact p.elim
    | ownM xs d ys => exact p.elim
  | exc c fs => exact p
  | bad => exact p
  | alt f ih => exact fun i => ih i (p i)
end
end Pyr
set_option Elab.async false
set_option autoImplicit false
set_option linter.all false
set_option maxRecDepth 100000
set_option maxHeartbeats 1000000
namespace Pyr
open PySem PySem.Spec PyProof.Rows L2 Evl
inductive Own where
  | lst (ds : List D)
  | set (ds : List D)
  | tup (dss : List (List D))
  | dic (es : List (D × D))
  | dil (ks : List Key) (dss : List (List D))
  | mix (xs : List D) (d : D) (ys : List D)
  | strm
  | exc (x : D)
inductive Sl where
  | emp
  | val (d : D)
  | own (o : Own)
abbrev Frm := List Sl
def Own.d : Own → Option D
  | .lst ds => some (.list ds)
  | .set ds => some (stD ds)
  | .tup dss => some (.tuple (dss.map .list))
  | .dic es => some (.dict es)
  | .dil _ _ => none
  | .mix xs d ys => some (.tuple [.list xs, d, .list ys])
  | .strm => some (stD [.bool false])
  | .exc c => some (exD c)
def purE (ρ : Frm) : En := ρ.map fun s => match s with
  | .val d => some d
  | .own (.lst ds) => some (loD ds)
  | .own (.set ds) => some (stD ds)
  | .own (.tup _) => none
  | .own (.dic _) => none
  | .own (.dil _ _) => none
  | .own (.mix _ _ _) => none
  | .own .strm => some (stD [.bool false])
  | .own (.exc c) => some (exD c)
  | .emp => none
def frzE (ρ : Frm) : En := ρ.map fun s => match s with
  | .val d => some d
  | .own o => o.d
  | .emp => none
inductive RpO (T : TabList) (K : PySem.W.Frag) (G H : Hp) : List Addr → V → Own → Prop
  | lst {a : Addr} {vs : List V} {ds : List D} : H a = some (.lst vs) → Rps K G vs ds → RpO T K G H [a] (.ref a) (.lst ds)
  | set {a : Addr} {ds : List D} : StAt T K G H a ds → RpO T K G H [a] (.ref a) (.set ds)
  | tup {p : Addr} {l : List Addr} {us : List V} {dss : List (List D)} : H p = some (.tup us) → p ∉ l → RpOs K G H l us dss → RpO T K G H (p :: l) (.ref p) (.tup dss)
  | dic {a : Addr} {kvs : List (Key × V)} {es : List (D × D)} : H a = some (.dK kvs) → RpKv K G kvs es → RpO T K G H [a] (.ref a) (.dic es)
  | dil {p : Addr} {l : List Addr} {us : List V} {ks : List Key} {dss : List (List D)} : H p = some (.dK (ks.zip us)) → ks.length = us.length → ks.Nodup → p ∉ l → RpOs K G H l us dss → RpO T K G H (p :: l) (.ref p) (.dil ks dss)
  | mix {p a b : Addr} {w : V} {xs : List D} {d : D} {ys : List D} : H p = some (.tup [.ref a, w, .ref b]) → p ∉ [a, b] → RpOs K G H [a, b] [.ref a, .ref b] [xs, ys] → Rp K G w d → RpO T K G H (p :: [a, b]) (.ref p) (.mix xs d ys)
  | strm {a : Addr} : StrAt K G a → RpO T K G H [] (.ref a) .strm
  | exc {a : Addr} {x : D} : XAt T K G a x → RpO T K G H [] (.ref a) (.exc x)
section
variable {TS : TabList} {K : PySem.W.Frag} {G H G' H' : Hp} {fp : List Addr} {v : V} {o : Own}
theorem RpO.keep (r : RpO TS K G H fp v o) (e : Ex G G') (h : ∀ a ∈ fp, ∀ u, H a = some u → isTb u = false → H' a = some u) : RpO TS K G' H' fp v o := by
  cases r with
  | lst h1 r => exact .lst (h _ (by simp) _ h1 rfl) (r.mono e)
  | set h1 => exact .set (h1.mono e fun u hu n => h _ (by simp) u hu n)
  | tup h1 n q => exact .tup (h _ (by simp) _ h1 rfl) n (q.keep e fun a ha vs hv => h a (List.mem_cons_of_mem _ ha) _ hv rfl)
  | dic h1 r => exact .dic (h _ (by simp) _ h1 rfl) (r.mono e)
  | dil h1 z d n q => exact .dil (h _ (by simp) _ h1 rfl) z d n (q.keep e fun a ha vs hv => h a (List.mem_cons_of_mem _ ha) _ hv rfl)
  | mix h1 n q r => exact .mix (h _ (by simp) _ h1 rfl) n (q.keep e fun a ha vs hv => h a (List.mem_cons_of_mem _ ha) _ hv rfl) (r.mono e)
  | strm h1 => exact .strm (h1.mono e)
  | exc h1 => exact .exc (h1.mono e)
theorem RpO.there (r : RpO TS K G H fp v o) : ∀ a ∈ fp, ∃ u, H a = some u ∧ isTb u = false := by
  cases r with
  | lst h1 r =>
    intro b hb
    rw [List.mem_singleton.mp hb]
    exact ⟨_, h1, rfl⟩
  | set h1 =>
    intro b hb
    rw [List.mem_singleton.mp hb]
    exact h1.there
  | tup h1 n q =>
    intro b hb
    rcases List.mem_cons.mp hb with rfl | hb
    · exact ⟨_, h1, rfl⟩
    · obtain ⟨vs, hv⟩ := q.there b hb
      exact ⟨_, hv, rfl⟩
  | dic h1 r =>
    intro b hb
    rw [List.mem_singleton.mp hb]
    exact ⟨_, h1, rfl⟩
  | dil h1 z d n q =>
    intro b hb
    rcases List.mem_cons.mp hb with rfl | hb
    · exact ⟨_, h1, rfl⟩
    · obtain ⟨vs, hv⟩ := q.there b hb
      exact ⟨_, hv, rfl⟩
  | mix h1 n q r =>
    intro b hb
    rcases List.mem_cons.mp hb with rfl | hb
    · exact ⟨_, h1, rfl⟩
    · obtain ⟨vs, hv⟩ := q.there b hb
      exact ⟨_, hv, rfl⟩
  | strm h1 => exact fun b hb => nomatch hb
  | exc h1 => exact fun b hb => nomatch hb
theorem ExT.at (e : ExT H H') {a : Addr} {u : HO} (h : H a = some u) (n : isTb u = false) : H' a = some u := e.same a u h fun ps z => by
  subst z
  cases n
end
structure SI (TS : TabList) (K : PySem.W.Frag) (G_0 H_0 : Hp) (ρ : Frm) (σ : L2.St) (G H : Hp) (fp : Nat → List Addr) : Prop where
  gr : Gr TS G_0 H_0 G H
  len : ρ.length = σ.length
  val : ∀ (i : Nat) (d : D), ρ[i]? = some (Sl.val d) → ∃ v, σ[i]? = some (some v) ∧ Rp K G v d
  own : ∀ (i : Nat) (o : Own), ρ[i]? = some (Sl.own o) → ∃ v, σ[i]? = some (some v) ∧ RpO TS K G H (fp i) v o
  apart : ∀ (i j : Nat) (o u : Own), ρ[i]? = some (Sl.own o) → ρ[j]? = some (Sl.own u) → i ≠ j → ∀ a ∈ fp i, a ∉ fp j
  free : ∀ (i : Nat) (o : Own), ρ[i]? = some (Sl.own o) → ∀ a ∈ fp i, G a = none ∧ H_0 a = none
def noTb (H : Hp) : Hp := fun a => match H a with
  | some o => if isTb o = true then none else some o
  | none => none
theorem noTb_some {H : Hp} {a : Addr} {u : HO} : noTb H a = some u ↔ H a = some u ∧ isTb u = false := by
  unfold noTb
  cases h : H a with
  | none => simp
  | some o =>
    cases q : isTb o with
    | true =>
      simp only [q, if_true]
      constructor
      · intro e
        cases e
      · rintro ⟨e, z⟩
        cases e
        rw [q] at z
        cases z
    | false =>
      simp only [q, Bool.false_eq_true, if_false]
      constructor
      · intro e
        cases e
        exact ⟨rfl, q⟩
      · exact fun e => e.1
theorem noTb_ex (H : Hp) : Ex (noTb H) H := fun a u h => (noTb_some.mp h).1
section
variable {TS : TabList} {K : PySem.W.Frag} {G_0 H_0 G H G1 H1 : Hp} {ρ : Frm} {σ : L2.St} {fp : Nat → List Addr}
theorem ok_noTb (k : Ok0 TS G H) : Ok0 TS (noTb H) H := ⟨noTb_ex H, k.tb, fun _ _ h => (noTb_some.mp h).2⟩
theorem ex_noTb (k : Ok0 TS G H) : Ex G (noTb H) := fun a u h => noTb_some.mpr ⟨k.le a u h, k.nt a u h⟩
theorem rpOs_frz {K : PySem.W.Frag} {G H : Hp} (e : Ex G (noTb H)) : ∀ {l : List Addr} {us : List V} {dss : List (List D)}, RpOs K G H l us dss → Rps K (noTb H) us (dss.map .list)
  | _, _, _, .nil => .nil
  | _, _, _, .cons h r _ q => .cons (.lst (.inl (.inl (noTb_some.mpr ⟨h, rfl⟩))) (r.mono e)) (rpOs_frz e q)
theorem SI.pure (s : SI TS K G_0 H_0 ρ σ G H fp) : RpE TS K G H (purE ρ) σ := ⟨by unfold purE; rw [List.length_map, s.len]; exact Nat.le_refl _, fun i d h hlo => (by
  unfold purE at h
  rw [List.getElem?_map] at h
  cases e : ρ[i]? with
  | none =>
    rw [e] at h
    cases h
  | some x =>
    rw [e] at h
    cases x with
    | val d' =>
      cases h
      exact s.val i d e
    | emp => cases h
    | own o =>
      cases o with
      | lst _ =>
        cases h
        cases hlo
      | set _ =>
        cases h
        cases hlo
      | tup _ => cases h
      | dic _ => cases h
      | dil _ _ => cases h
      | mix _ _ _ => cases h
      | strm =>
        cases h
        cases hlo
      | exc _ =>
        cases h
        cases hlo), fun i ds h => (by
  unfold purE at h
  rw [List.getElem?_map] at h
  cases e : ρ[i]? with
  | none =>
    rw [e] at h
    cases h
  | some x =>
    rw [e] at h
    cases x with
    | val d' =>
      cases h
      obtain ⟨v, h1, h2⟩ := s.val i _ e
      exact absurd h2.notLo (by simp [isLo])
    | emp => cases h
    | own o =>
      obtain ⟨v, h1, h2⟩ := s.own i o e
      generalize fp i = q at h2
      cases h2 with
      | lst h3 r =>
        cases h
        exact ⟨_, _, h1, h3, r⟩
      | set h3 => cases h
      | tup h3 => cases h
      | dic h3 => cases h
      | dil h3 => cases h
      | mix h3 => cases h
      | strm h3 => cases h
      | exc h3 => cases h), fun i ds h => (by
  unfold purE at h
  rw [List.getElem?_map] at h
  cases e : ρ[i]? with
  | none =>
    rw [e] at h
    cases h
  | some x =>
    rw [e] at h
    cases x with
    | val d' =>
      cases h
      obtain ⟨v, h1, h2⟩ := s.val i _ e
      exact absurd h2.notLo (by simp [isLo])
    | emp => cases h
    | own o =>
      obtain ⟨v, h1, h2⟩ := s.own i o e
      generalize fp i = q at h2
      cases h2 with
      | lst h3 r => cases h
      | set h3 =>
        cases h
        exact ⟨_, h1, h3⟩
      | tup h3 => cases h
      | dic h3 => cases h
      | dil h3 => cases h
      | mix h3 => cases h
      | strm h3 =>
        cases h
        obtain ⟨sc, ns, z, _⟩ := h3.ex
        exact ⟨_, h1, ⟨.inr (.inr (.inr ⟨rfl, h3, sc, s.gr.ok.le _ _ z⟩))⟩⟩
      | exc h3 => cases h), fun i c h => by
  unfold purE at h
  rw [List.getElem?_map] at h
  cases e : ρ[i]? with
  | none =>
    rw [e] at h
    cases h
  | some x =>
    rw [e] at h
    cases x with
    | val d' =>
      cases h
      obtain ⟨v, h1, h2⟩ := s.val i _ e
      exact absurd h2.notLo (by simp [isLo])
    | emp => cases h
    | own o =>
      obtain ⟨v, h1, h2⟩ := s.own i o e
      generalize fp i = q at h2
      cases h2 with
      | exc h3 =>
        cases h
        exact ⟨_, h1, h3⟩
      | _ => cases h⟩
theorem SI.frz (s : SI TS K G_0 H_0 ρ σ G H fp) : RpE TS K (noTb H) H (frzE ρ) σ := ⟨by unfold frzE; rw [List.length_map, s.len]; exact Nat.le_refl _, fun i d h hlo => (by
  unfold frzE at h
  rw [List.getElem?_map] at h
  cases e : ρ[i]? with
  | none =>
    rw [e] at h
    cases h
  | some x =>
    rw [e] at h
    cases x with
    | val d' =>
      cases h
      obtain ⟨v, h1, h2⟩ := s.val i d e
      exact ⟨v, h1, h2.mono (ex_noTb s.gr.ok)⟩
    | emp => cases h
    | own o =>
      obtain ⟨v, h1, h2⟩ := s.own i o e
      generalize fp i = q at h2
      cases h2 with
      | lst h3 r =>
        cases h
        exact ⟨_, h1, .lst (.inl (.inl (noTb_some.mpr ⟨h3, rfl⟩))) (r.mono (ex_noTb s.gr.ok))⟩
      | set h3 =>
        cases h
        cases hlo
      | tup h3 n q =>
        cases h
        exact ⟨_, h1, .tup (.inl (.inl (noTb_some.mpr ⟨h3, rfl⟩))) (rpOs_frz (ex_noTb s.gr.ok) q)⟩
      | dic h3 r =>
        cases h
        exact ⟨_, h1, .dic (noTb_some.mpr ⟨h3, rfl⟩) (r.mono (ex_noTb s.gr.ok))⟩
      | dil h3 => cases h
      | mix h3 n q r =>
        cases h
        exact ⟨_, h1, .tup (.inl (.inl (noTb_some.mpr ⟨h3, rfl⟩))) (rps_mid (rpOs_frz (ex_noTb s.gr.ok) q) (r.mono (ex_noTb s.gr.ok)))⟩
      | strm =>
        cases h
        cases hlo
      | exc _ =>
        cases h
        cases hlo), fun i ds h => (by
  unfold frzE at h
  rw [List.getElem?_map] at h
  cases e : ρ[i]? with
  | none =>
    rw [e] at h
    cases h
  | some x =>
    rw [e] at h
    cases x with
    | val d' =>
      cases h
      obtain ⟨v, h1, h2⟩ := s.val i _ e
      exact absurd h2.notLo (by simp [isLo])
    | emp => cases h
    | own o =>
      cases o with
      | dic es =>
        obtain ⟨v, h1, h2⟩ := s.own i _ e
        generalize fp i = q at h2
        cases h2 with
        | dic h3 r =>
          have hn := (Rp.dic (noTb_some.mpr ⟨h3, rfl⟩) (r.mono (ex_noTb s.gr.ok))).notLo
          have h : some (PyData.dict es) = some (loD ds) := Option.some.inj h
          rw [Option.some.inj h] at hn
          exact absurd hn (by simp [isLo])
      | _ => cases h), fun i ds h => (by
  unfold frzE at h
  rw [List.getElem?_map] at h
  cases e : ρ[i]? with
  | none =>
    rw [e] at h
    cases h
  | some x =>
    rw [e] at h
    cases x with
    | val d' =>
      cases h
      obtain ⟨v, h1, h2⟩ := s.val i _ e
      exact absurd h2.notLo (by simp [isLo])
    | emp => cases h
    | own o =>
      obtain ⟨v, h1, h2⟩ := s.own i o e
      generalize fp i = q at h2
      cases h2 with
      | lst h3 r => cases h
      | set h3 =>
        cases h
        exact ⟨_, h1, h3.mono (ex_noTb s.gr.ok) fun _ hu _ => hu⟩
      | tup h3 => cases h
      | dic h3 r =>
        have hn := (Rp.dic (noTb_some.mpr ⟨h3, rfl⟩) (r.mono (ex_noTb s.gr.ok))).notLo
        have h : some (PyData.dict _) = some (stD ds) := Option.some.inj h
        rw [Option.some.inj h] at hn
        exact absurd hn (by simp [isLo])
      | dil h3 => cases h
      | mix h3 => cases h
      | strm h3 =>
        cases h
        obtain ⟨sc, ns, z, _⟩ := h3.ex
        exact ⟨_, h1, ⟨.inr (.inr (.inr ⟨rfl, h3.mono (ex_noTb s.gr.ok), sc, s.gr.ok.le _ _ z⟩))⟩⟩
      | exc h3 => cases h), fun i c h => by
  unfold frzE at h
  rw [List.getElem?_map] at h
  cases e : ρ[i]? with
  | none =>
    rw [e] at h
    cases h
  | some x =>
    rw [e] at h
    cases x with
    | val d' =>
      cases h
      obtain ⟨v, h1, h2⟩ := s.val i _ e
      exact absurd h2.notLo (by simp [isLo])
    | emp => cases h
    | own o =>
      obtain ⟨v, h1, h2⟩ := s.own i o e
      generalize fp i = q at h2
      cases h2 with
      | exc h3 =>
        cases h
        exact ⟨_, h1, h3.mono (ex_noTb s.gr.ok)⟩
      | dic h3 r =>
        have hn := (Rp.dic (noTb_some.mpr ⟨h3, rfl⟩) (r.mono (ex_noTb s.gr.ok))).notLo
        have h : some (PyData.dict _) = some (exD _) := Option.some.inj h
        rw [Option.some.inj h] at hn
        exact absurd hn (by simp [isLo])
      | _ => cases h⟩
theorem SI.grow (s : SI TS K G_0 H_0 ρ σ G H fp) (g : Gr TS G H G1 H1) : SI TS K G_0 H_0 ρ σ G1 H1 fp := by
  refine ⟨s.gr.trans g, s.len, fun i d h => ?_, fun i o h => ?_, s.apart, fun i o h a ha => ?_⟩
  · obtain ⟨v, h1, h2⟩ := s.val i d h
    exact ⟨v, h1, h2.mono g.g⟩
  · obtain ⟨v, h1, h2⟩ := s.own i o h
    exact ⟨v, h1, h2.keep g.g fun a _ u hu n => g.h.at hu n⟩
  · obtain ⟨v, h1, h2⟩ := s.own i o h
    obtain ⟨u, hu, _⟩ := h2.there a ha
    obtain ⟨z1, z2⟩ := s.free i o h a ha
    refine ⟨?_, z2⟩
    cases q : G1 a with
    | none => rfl
    | some w =>
      rcases g.nw a (by rw [q]; simp) with c | c
      · exact absurd z1 c
      · rw [hu] at c
        cases c
theorem set_at {α : Type} {l : List α} {i j : Nat} {x y : α} (h : (l.set i x)[j]? = some y) : (i = j ∧ x = y ∧ i < l.length) ∨ (i ≠ j ∧ l[j]? = some y) := by
  by_cases e : i = j
  · subst e
    by_cases hl : i < l.length
    · rw [List.getElem?_set_self hl] at h
      exact .inl ⟨rfl, Option.some.inj h, hl⟩
    · rw [List.getElem?_eq_none (by simpa using hl)] at h
      cases h
  · rw [List.getElem?_set_ne e] at h
    exact .inr ⟨e, h⟩
theorem SI.setVal {i : Nat} {d : D} {v : V} (s : SI TS K G_0 H_0 ρ σ G H fp) (r : Rp K G v d) : SI TS K G_0 H_0 (ρ.set i (.val d)) (σ.set i (some v)) G H fp := by
  refine ⟨s.gr, by simpa using s.len, fun j d' h => ?_, fun j o h => ?_, fun j l o u h1 h2 => ?_, fun j o h => ?_⟩
  · rcases set_at h with ⟨rfl, e, hl⟩ | ⟨ne, h⟩
    · cases e
      exact ⟨v, List.getElem?_set_self (by rw [← s.len]; exact hl), r⟩
    · rw [List.getElem?_set_ne ne]
      exact s.val j d' h
  · rcases set_at h with ⟨rfl, e, hl⟩ | ⟨ne, h⟩
    · cases e
    · rw [List.getElem?_set_ne ne]
      exact s.own j o h
  · rcases set_at h1 with ⟨_, e, _⟩ | ⟨_, h1⟩
    · cases e
    · rcases set_at h2 with ⟨_, e, _⟩ | ⟨_, h2⟩
      · cases e
      · exact s.apart j l o u h1 h2
  · rcases set_at h with ⟨_, e, _⟩ | ⟨_, h⟩
    · cases e
    · exact s.free j o h
def setFp (fp : Nat → List Addr) (i : Nat) (l : List Addr) : Nat → List Addr := fun j => if j = i then l else fp j
theorem setFp_same {i : Nat} {l : List Addr} : setFp fp i l i = l := if_pos rfl
theorem setFp_ne {i j : Nat} {l : List Addr} (h : i ≠ j) : setFp fp i l j = fp j := if_neg (Ne.symm h)
theorem SI.setOwn {i : Nat} {o : Own} {v : V} {l : List Addr} (s : SI TS K G_0 H_0 ρ σ G H fp) (r : RpO TS K G H l v o) (hn : ∀ a ∈ l, G a = none ∧ H_0 a = none) (hf : ∀ (j : Nat) (u : Own), ρ[j]? = some (Sl.own u) → j ≠ i → ∀ a ∈ l, a ∉ fp j) :
    SI TS K G_0 H_0 (ρ.set i (.own o)) (σ.set i (some v)) G H (setFp fp i l) := by
  refine ⟨s.gr, by simpa using s.len, fun j d' h => ?_, fun j u h => ?_, fun j m u w h1 h2 hjm => ?_, fun j u h => ?_⟩
  · rcases set_at h with ⟨rfl, e, hl⟩ | ⟨ne, h⟩
    · cases e
    · rw [List.getElem?_set_ne ne]
      exact s.val j d' h
  · rcases set_at h with ⟨rfl, e, hl⟩ | ⟨ne, h⟩
    · cases e
      exact ⟨v, List.getElem?_set_self (by rw [← s.len]; exact hl), by rw [setFp_same]; exact r⟩
    · rw [List.getElem?_set_ne ne, setFp_ne ne]
      exact s.own j u h
  · rcases set_at h1 with ⟨rfl, e, _⟩ | ⟨n1, h1⟩
    · rcases set_at h2 with ⟨rfl, e, _⟩ | ⟨n2, h2⟩
      · exact absurd rfl hjm
      · rw [setFp_same, setFp_ne n2]
        exact hf m w h2 (Ne.symm n2)
    · rcases set_at h2 with ⟨rfl, e, _⟩ | ⟨n2, h2⟩
      · rw [setFp_same, setFp_ne n1]
        exact fun a ha hb => hf j u h1 (Ne.symm n1) a hb ha
      · rw [setFp_ne n1, setFp_ne n2]
        exact s.apart j m u w h1 h2 hjm
  · rcases set_at h with ⟨rfl, e, _⟩ | ⟨ne, h⟩
    · rw [setFp_same]
      exact hn
    · rw [setFp_ne ne]
      exact s.free j u h
theorem SI.change {i : Nat} {ds ds' : List D} {a : Addr} {vs' : List V} (s : SI TS K G_0 H_0 ρ σ G H fp) (hi : ρ[i]? = some (Sl.own (.lst ds))) (ha : σ[i]? = some (some (.ref a))) (r : Rps K G vs' ds') :
    SI TS K G_0 H_0 (ρ.set i (.own (.lst ds'))) σ G (upd H a (.lst vs')) fp := by
  have hil : i < ρ.length := (List.getElem?_eq_some_iff.mp hi).1
  obtain ⟨v, hv, ro⟩ := s.own i _ hi
  rw [ha] at hv
  cases hv
  have hfp : fp i = [a] := by
    generalize hq : fp i = q at ro
    cases ro
    rfl
  have ham : a ∈ fp i := by rw [hfp]; simp
  obtain ⟨u, hu, hub⟩ := ro.there a ham
  obtain ⟨z1, z2⟩ := s.free i _ hi a ham
  have hs : σ.set i (some (.ref a)) = σ := by
    have hl : i < σ.length := by rw [← s.len]; exact hil
    have : σ[i] = some (.ref a) := by
      rw [List.getElem?_eq_getElem hl] at ha
      exact Option.some.inj ha
    rw [← this]
    exact List.set_getElem_self hl
  have keepO : ∀ b w, b ≠ a → H b = some w → upd H a (.lst vs') b = some w := fun b w n h => by rw [upd_ne n]; exact h
  have gr : Gr TS G_0 H_0 G (upd H a (.lst vs')) := by
    refine ⟨s.gr.g, ⟨fun b w h n => keepO b w (ne_of_none h z2) (s.gr.h.same b w h n), fun b h => s.gr.h.old b (upd_none h), fun P t => (s.gr.h.tb P t).upd hu hub⟩, s.gr.nw, ⟨fun b w h => keepO b w (ne_of_none h z1) (s.gr.ok.le b w h), s.gr.ok.tb.upd hu hub, s.gr.ok.nt⟩⟩
  refine ⟨gr, by simpa using s.len, fun j d' h => ?_, fun j w h => ?_, fun j m w1 w2 h1 h2 hjm => ?_, fun j w h => ?_⟩
  · rcases set_at h with ⟨rfl, e, hl⟩ | ⟨ne, h⟩
    · cases e
    · exact s.val j d' h
  · rcases set_at h with ⟨rfl, e, hl⟩ | ⟨ne, h⟩
    · cases e
      exact ⟨_, ha, by rw [hfp]; exact .lst upd_same r⟩
    · obtain ⟨v2, h1, h2⟩ := s.own j w h
      refine ⟨v2, h1, h2.keep (Ex.refl G) fun b hb w2 hw _ => keepO b w2 (fun e => ?_) hw⟩
      subst e
      exact s.apart i j _ _ hi h ne _ ham hb
  · have old : ∀ {k : Nat} {w : Own}, (ρ.set i (.own (.lst ds')))[k]? = some (Sl.own w) → ∃ w', ρ[k]? = some (Sl.own w') := fun {k w} h => by
      rcases set_at h with ⟨rfl, e, _⟩ | ⟨_, h⟩
      · exact ⟨_, hi⟩
      · exact ⟨w, h⟩
    obtain ⟨w1', h1'⟩ := old h1
    obtain ⟨w2', h2'⟩ := old h2
    exact s.apart j m w1' w2' h1' h2' hjm
  · rcases set_at h with ⟨rfl, e, _⟩ | ⟨_, h⟩
    · exact s.free i _ hi
    · exact s.free j w h
theorem SI.freeze {i : Nat} {ds : List D} (s : SI TS K G_0 H_0 ρ σ G H fp) (hi : ρ[i]? = some (Sl.own (.lst ds))) : ∃ G1, Ex G G1 ∧ SI TS K G_0 H_0 (ρ.set i (.val (.list ds))) σ G1 H fp := by
  have hil : i < ρ.length := (List.getElem?_eq_some_iff.mp hi).1
  obtain ⟨v, hv, ro⟩ := s.own i _ hi
  generalize hq : fp i = q at ro
  cases ro with
  | @lst a vs _ h1 r =>
    have ham : a ∈ fp i := by rw [hq]; simp
    obtain ⟨z1, z2⟩ := s.free i _ hi a ham
    obtain ⟨e1, e2⟩ := Gr.count s.gr.ok z1 h1
    have s2 : SI TS K G_0 H_0 (ρ.set i (.val (.list ds))) (σ.set i (some (.ref a))) (upd G a (.lst vs)) H fp := by
      refine ⟨⟨s.gr.g.trans e1, s.gr.h, fun b h => ?_, e2⟩, by simpa using s.len, fun j d' h => ?_, fun j w h => ?_, fun j m w1 w2 h1 h2 hjm => ?_, fun j w h b hb => ?_⟩
      · by_cases z : b = a
        · subst z
          exact .inr z2
        · rw [upd_ne z] at h
          exact s.gr.nw b h
      · rcases set_at h with ⟨rfl, e, hl⟩ | ⟨ne, h⟩
        · cases e
          exact ⟨_, List.getElem?_set_self (by rw [← s.len]; exact hl), .lst (.inl (.inl upd_same)) (r.mono e1)⟩
        · obtain ⟨v2, q1, q2⟩ := s.val j d' h
          rw [List.getElem?_set_ne ne]
          exact ⟨v2, q1, q2.mono e1⟩
      · rcases set_at h with ⟨rfl, e, hl⟩ | ⟨ne, h⟩
        · cases e
        · obtain ⟨v2, q1, q2⟩ := s.own j w h
          rw [List.getElem?_set_ne ne]
          exact ⟨v2, q1, q2.keep e1 fun _ _ _ h _ => h⟩
      · rcases set_at h1 with ⟨_, e, _⟩ | ⟨_, h1⟩
        · cases e
        · rcases set_at h2 with ⟨_, e, _⟩ | ⟨_, h2⟩
          · cases e
          · exact s.apart j m w1 w2 h1 h2 hjm
      · rcases set_at h with ⟨_, e, _⟩ | ⟨ne, h⟩
        · cases e
        · obtain ⟨q1, q2⟩ := s.free j w h b hb
          refine ⟨?_, q2⟩
          rw [upd_ne fun e => ?_]
          · exact q1
          · subst e
            exact s.apart i j _ _ hi h ne _ ham hb
    have hs : σ.set i (some (.ref a)) = σ := by
      have hl : i < σ.length := by rw [← s.len]; exact hil
      have : σ[i] = some (.ref a) := by
        rw [List.getElem?_eq_getElem hl] at hv
        exact Option.some.inj hv
      rw [← this]
      exact List.set_getElem_self hl
    rw [hs] at s2
    exact ⟨_, e1, s2⟩
end
end Pyr
set_option Elab.async false
set_option autoImplicit false
set_option linter.all false
set_option maxRecDepth 100000
set_option maxHeartbeats 1000000
namespace Pyr
open PySem PySem.Spec PyProof.Rows L2 Evl
theorem fun_ok {P : Program} {w : World} {K : PySem.W.Frag} {mg : Str → Option Value} {base : Heap} {X0 : CXT} {x qual : Str} {st : Stmt} {f : Addr} {fd : FuncData} {N ps : List Str} {k : Nat} {sp : Sp} (F : Fun K x qual st f fd) (S : FnScope N ps (defScope st)) (h1 : ∀ vs H Q E, sp vs H Q E → vs.length = ps.length)
    (h2 : ∀ (c : Value) (A : Around) (outer : List Env) (s : Shared) (H : Hp) (vs : List V) (Q : VK) (E : XK), Room k (A.deeper (envOfC qual (defScope st) s.heap.objs.size f c)) → sp vs H Q E →
      ∃ t, PSs (cxOf X0 P w K mg base N qual (defScope st) f c A outer s H E) (defBody st) t ∧ t { nx := fun _ H' => Q .non H', rt := Q } (L2.start N vs) H) : FnOk P w K mg base X0 (k + 1) f fd ps sp := by
  obtain ⟨_, _, _, _, _, _, c, _, _, rfl, lk, hc⟩ := F.ex
  exact fn_of lk hc S h1 fun A o s H vs Q E => h2 c A o s H vs Q E
inductive Fl where
  | next (ρ : Frm)
  | ret (r : RV)
  | brk (ρ : Frm)
  | cont (ρ : Frm)
def PostS (TS : TabList) (X : Cx) (W : WX) (G_0 H_0 Gs : Hp) (D : Ends) : Res Fl → Prop
  | .alt f => ∀ i, PostS TS X W G_0 H_0 Gs D (f i)
  | .ok (.next ρ) => ∀ (σ : L2.St) (G H : Hp) (fp : Nat → List Addr), Ex Gs G → SI TS X.K G_0 H_0 ρ σ G H fp → D.nx σ H
  | .ok (.brk ρ) => ∀ (σ : L2.St) (G H : Hp) (fp : Nat → List Addr), Ex Gs G → SI TS X.K G_0 H_0 ρ σ G H fp → D.bk σ H
  | .ok (.cont ρ) => ∀ (σ : L2.St) (G H : Hp) (fp : Nat → List Addr), Ex Gs G → SI TS X.K G_0 H_0 ρ σ G H fp → D.ct σ H
  | .ok (.ret (.val d)) => ∀ (v : V) (G H : Hp), Gr TS G_0 H_0 G H → Rp X.K G v d → D.rt v H
  | .ok (.ret (.own ds)) => ∀ (v : V) (G H : Hp), Gr TS G_0 H_0 G H → RelL X.K H_0 G H v ds → D.rt v H
  | .ok (.ret (.ownU dss)) => ∀ (v : V) (G H : Hp), Gr TS G_0 H_0 G H → RelU X.K H_0 G H v dss → D.rt v H
  | .ok (.ret (.ownM xs d ys)) => ∀ (v : V) (G H : Hp), Gr TS G_0 H_0 G H → RelM X.K H_0 G H v (xs, d, ys) → D.rt v H
  | .exc c fs => ∀ (C : Addr) (d : Option Addr) (σ : L2.St) (G H : Hp), X.mg c = some (.ref C) → Gr TS G_0 H_0 G H → ExcRep X.K G H d fs → W (.ref C) d σ H
  | .bad => False
theorem PostS.shift {TS : TabList} {X : Cx} {W : WX} {G_0 H_0 G G' : Hp} {D : Ends} {r : Res Fl} (e : Ex G G') (p : PostS TS X W G_0 H_0 G D r) : PostS TS X W G_0 H_0 G' D r := by
  induction r with
  | alt f ih => exact fun i => ih i (p i)
  | ok fl =>
    cases fl with
    | next ρ => exact fun σ G1 H fp e1 s => p σ G1 H fp (e.trans e1) s
    | brk ρ => exact fun σ G1 H fp e1 s => p σ G1 H fp (e.trans e1) s
    | cont ρ => exact fun σ G1 H fp e1 s => p σ G1 H fp (e.trans e1) s
    | ret r =>
      cases r with
      | val d => exact p
      | own ds => exact p
      | ownU dss => exact p
      | ownM xs d ys => exact p
  | exc c fs => exact p
  | bad => exact p
def wpSt (X : Cx) (st : Stmt) : TS := fun D σ H => ∀ (pins : List (Addr × Obj)) (s : Shared), Inv X pins σ H s → wpAny (model X.prog X.w) X.A (exec st X.env) (SP X pins D) X.xe s
theorem ps_wp (X : Cx) (st : Stmt) : PS X st (wpSt X st) := ⟨fun pins s _ _ _ I h => h pins s I⟩
theorem wpSt_of {X : Cx} {st : Stmt} {t : TS} {D : Ends} {σ : L2.St} {H : Hp} (h : PS X st t) (q : t D σ H) : wpSt X st D σ H := fun pins s I => h.run pins s σ H D I q
def wpSs (X : Cx) (st : List Stmt) : TS := fun D σ H => ∀ (pins : List (Addr × Obj)) (s : Shared), Inv X pins σ H s → wpAny (model X.prog X.w) X.A (execs st X.env) (SP X pins D) X.xe s
theorem pss_wp (X : Cx) (st : List Stmt) : PSs X st (wpSs X st) := ⟨fun pins s _ _ _ I h => h pins s I⟩
theorem wpSs_of {X : Cx} {st : List Stmt} {t : TS} {D : Ends} {σ : L2.St} {H : Hp} (h : PSs X st t) (q : t D σ H) : wpSs X st D σ H := fun pins s I => h.run pins s σ H D I q
structure DSt (TS : TabList) (X : Cx) (st : Stmt) (F : Frm → Res Fl) : Prop where
  run : ∀ (W : WX) (ρ : Frm) (σ : L2.St) (G_0 H_0 G H : Hp) (fp : Nat → List Addr) (D : Ends), Takes X W → SI TS X.K G_0 H_0 ρ σ G H fp → PostS TS X W G_0 H_0 G D (F ρ) → wpSt X st D σ H
instance {TS : TabList} {X : Cx} {st : Stmt} {F : Frm → Res Fl} : CoeFun (DSt TS X st F) fun _ => ∀ (W : WX) (ρ : Frm) (σ : L2.St) (G_0 H_0 G H : Hp) (fp : Nat → List Addr) (D : Ends), Takes X W → SI TS X.K G_0 H_0 ρ σ G H fp → PostS TS X W G_0 H_0 G D (F ρ) → wpSt X st D σ H := ⟨DSt.run⟩
structure DSs (TS : TabList) (X : Cx) (st : List Stmt) (F : Frm → Res Fl) : Prop where
  run : ∀ (W : WX) (ρ : Frm) (σ : L2.St) (G_0 H_0 G H : Hp) (fp : Nat → List Addr) (D : Ends), Takes X W → SI TS X.K G_0 H_0 ρ σ G H fp → PostS TS X W G_0 H_0 G D (F ρ) → wpSs X st D σ H
instance {TS : TabList} {X : Cx} {st : List Stmt} {F : Frm → Res Fl} : CoeFun (DSs TS X st F) fun _ => ∀ (W : WX) (ρ : Frm) (σ : L2.St) (G_0 H_0 G H : Hp) (fp : Nat → List Addr) (D : Ends), Takes X W → SI TS X.K G_0 H_0 ρ σ G H fp → PostS TS X W G_0 H_0 G D (F ρ) → wpSs X st D σ H := ⟨DSs.run⟩
def sNext : Frm → Res Fl := fun ρ => .ok (.next ρ)
def sSeq (F1 F2 : Frm → Res Fl) : Frm → Res Fl := fun ρ => (F1 ρ).bind fun fl => match fl with
  | .next ρ' => F2 ρ'
  | fl => .ok fl
def bare {α : Type} : Res α → Res α
  | .exc _ (_ :: _) => .bad
  | .alt f => .alt fun i => bare (f i)
  | r => r
def evP (fe : En → Res D) (ρ : Frm) : Res D := match fe (purE ρ) with
  | .bad => (bare (fe (frzE ρ))).bind fun d => if flat0 d then .ok d else .bad
  | r => r
def evL (fe : En → Res (List D)) (ρ : Frm) : Res (List D) := match fe (purE ρ) with
  | .bad => (bare (fe (frzE ρ))).bind fun ds => if ds.all flat0 then .ok ds else .bad
  | r => r
def evT (ft : En → Res Bool) (ρ : Frm) : Res Bool := bare (ft (frzE ρ))
def sIf (ft : En → Res Bool) (F1 F2 : Frm → Res Fl) : Frm → Res Fl := fun ρ => (evT ft ρ).bind fun b => if b then F1 ρ else F2 ρ
def sSet (i : Nat) (fe : En → Res D) : Frm → Res Fl := fun ρ => (evP fe ρ).bind fun d => .ok (.next (ρ.set i (.val d)))
def sSetL (i : Nat) (fe : En → Res (List D)) : Frm → Res Fl := fun ρ => (evL fe ρ).bind fun ds => .ok (.next (ρ.set i (.own (.lst ds))))
def sRet (fe : En → Res D) : Frm → Res Fl := fun ρ => (evP fe ρ).bind fun d => .ok (.ret (.val d))
def sRetL (fe : En → Res (List D)) : Frm → Res Fl := fun ρ => (evL fe ρ).bind fun ds => .ok (.ret (.own ds))
def sRetN : Frm → Res Fl := fun _ => .ok (.ret (.val .none))
def sRetO (i : Nat) : Frm → Res Fl := fun ρ => match ρ[i]? with
  | some (Sl.own (.lst ds)) => .ok (.ret (.own ds))
  | _ => .bad
def sDrop (fe : En → Res D) : Frm → Res Fl := fun ρ => (evP fe ρ).bind fun _ => .ok (.next ρ)
def sApp (i : Nat) (fe : En → Res D) : Frm → Res Fl := fun ρ => match ρ[i]? with
  | some (Sl.own (.lst ds)) => (evP fe ρ).bind fun d => okL (ds.length + 1) (.ok (.next (ρ.set i (.own (.lst (ds ++ [d]))))))
  | _ => .bad
def sPut (i : Nat) (fj fe : En → Res D) : Frm → Res Fl := fun ρ => match ρ[i]? with
  | some (Sl.own (.lst ds)) => (evP fe ρ).bind fun d => (evP fj ρ).bind fun j => match j with
    | .int k => match ixN ds.length k with
      | some n => .ok (.next (ρ.set i (.own (.lst (ds.set n d)))))
      | none => .bad
    | _ => .bad
  | _ => .bad
def sFrz (i : Nat) (F : Frm → Res Fl) : Frm → Res Fl := fun ρ => match ρ[i]? with
  | some (Sl.own (.lst ds)) => F (ρ.set i (.val (.list ds)))
  | _ => F ρ
section
variable {TS : TabList} {X : Cx} {W : WX} {a e c : Expr} {fe fj : En → Res D} {fl : En → Res (List D)} {ft : En → Res Bool} {F F1 F2 : Frm → Res Fl} {st : Stmt} {rest b1 b2 : List Stmt} {pos : Pos}
variable {G_0 H_0 G H G1 H1 : Hp} {ρ : Frm} {σ : L2.St} {fp : Nat → List Addr} {D : Ends}
theorem gr_noTb (k : Ok0 TS G H) (g : Gr TS (noTb H) H G1 H1) : Gr TS G H G H1 := ⟨Ex.refl G, g.h, fun _ h => .inl h, ⟨((ex_noTb k).trans g.g).trans g.ok.le, g.ok.tb, k.nt⟩⟩
theorem flat_any {K : PySem.W.Frag} {v : V} {d : Pyr.D} (h : flat0 d = true) (r : Rp K G v d) : Rp K G1 v d := by
  cases r with
  | non => exact .non
  | bl b => exact .bl b
  | int i => exact .int i
  | str x => exact .str x
  | _ => cases h
theorem flats_any {K : PySem.W.Frag} : ∀ {vs : List V} {ds : List Pyr.D}, ds.all flat0 = true → Rps K G vs ds → Rps K G1 vs ds
  | _, _, _, .nil => .nil
  | _, _, h, .cons r rs => by
    rw [List.all_cons, Bool.and_eq_true] at h
    exact .cons (flat_any h.1 r) (flats_any h.2 rs)
theorem postX_of {c : Str} {fs : List (Str × Pyr.D)} (s : SI TS X.K G_0 H_0 ρ σ G H fp) (p : PostS TS X W G_0 H_0 G D (.exc c fs)) : PostX TS X W σ G H c fs :=
  fun C d G' H' m g r => p C d σ G' H' m (s.gr.trans g) r
theorem postX_frz {c : Str} {fs : List (Str × Pyr.D)} (s : SI TS X.K G_0 H_0 ρ σ G H fp) (p : PostS TS X W G_0 H_0 G D (.exc c fs)) (hf : fs = []) : PostX TS X W σ (noTb H) H c fs := by
  subst hf
  exact fun C d G' H' m g r => p C d σ G H' m (s.gr.trans (gr_noTb s.gr.ok g)) r
theorem stP {α γ : Type} {Rel : Hp → Hp → Hp → γ → α → Prop} {r : Res α} {k : α → Res Fl} {R : γ → Hp → Prop} (s : SI TS X.K G_0 H_0 ρ σ G H fp) (p : PostS TS X W G_0 H_0 G D (r.bind k))
    (next : ∀ v x G1 H1, Gr TS G H G1 H1 → Rel H G1 H1 v x → PostS TS X W G_0 H_0 G D (k x) → R v H1) : PostG Rel TS X W σ G H r R := by
  induction r with
  | ok x => exact fun v G1 H1 g r => next v x G1 H1 g r p
  | exc c fs => exact postX_of s p
  | bad => exact p
  | alt f ih => exact fun i => ih i (p i)
theorem stB {α γ : Type} {Rel : Hp → Hp → Hp → γ → α → Prop} {r : Res α} {k : α → Res Fl} {R : γ → Hp → Prop} (s : SI TS X.K G_0 H_0 ρ σ G H fp) (p : PostS TS X W G_0 H_0 G D ((bare r).bind k))
    (next : ∀ v x G1 H1, Gr TS (noTb H) H G1 H1 → Rel H G1 H1 v x → PostS TS X W G_0 H_0 G D (k x) → R v H1) : PostG Rel TS X W σ (noTb H) H r R := by
  induction r with
  | ok x => exact fun v G1 H1 g r => next v x G1 H1 g r p
  | exc c fs =>
    cases fs with
    | nil => exact postX_frz s p rfl
    | cons _ _ => exact p.elim
  | bad => exact p
  | alt f ih => exact fun i => ih i (p i)
theorem bind_bind {α β γ : Type} {r : Res α} {k : α → Res β} {l : β → Res γ} : (r.bind k).bind l = r.bind fun x => (k x).bind l := by
  induction r with
  | alt f ih => exact congrArg Res.alt (funext ih)
  | _ => rfl
theorem evP_cases (fe : En → Res Pyr.D) (ρ : Frm) : evP fe ρ = fe (purE ρ) ∨ evP fe ρ = (bare (fe (frzE ρ))).bind fun d => if flat0 d then .ok d else .bad := by
  unfold evP
  split
  · exact .inr rfl
  · exact .inl rfl
theorem evL_cases (fe : En → Res (List Pyr.D)) (ρ : Frm) : evL fe ρ = fe (purE ρ) ∨ evL fe ρ = (bare (fe (frzE ρ))).bind fun ds => if ds.all flat0 then .ok ds else .bad := by
  unfold evL
  split
  · exact .inr rfl
  · exact .inl rfl
theorem evP_run {k : Pyr.D → Res Fl} {R : VK} (he : DE TS X e fe) (tk : Takes X W) (s : SI TS X.K G_0 H_0 ρ σ G H fp) (p : PostS TS X W G_0 H_0 G D ((evP fe ρ).bind k))
    (next : ∀ (v : V) (d : Pyr.D) (G1 H1 : Hp), Gr TS G H G1 H1 → Rp X.K G1 v d → PostS TS X W G_0 H_0 G D (k d) → R v H1) : wpE X e σ H R := by
  rcases evP_cases fe ρ with e1 | e1
  · rw [e1] at p
    exact he W (purE ρ) σ G H R tk s.pure s.gr.ok (stP s p next)
  · rw [e1, bind_bind] at p
    refine he W (frzE ρ) σ (noTb H) H R tk s.frz (ok_noTb s.gr.ok) (stB s p fun v d G1 H1 g r p => ?_)
    by_cases hf : flat0 d = true
    · rw [if_pos hf] at p
      exact next v d G H1 (gr_noTb s.gr.ok g) (flat_any hf r) p
    · rw [if_neg hf] at p
      exact p.elim
theorem evL_gen {wp : L2.St → Hp → VK → Prop} {k : List Pyr.D → Res Fl} {R : VK} (he : ∀ (W : WX) (ρ : En) (σ : L2.St) (G H : Hp) (Q : VK), Takes X W → RpE TS X.K G H ρ σ → Ok0 TS G H → PostG (RelL X.K) TS X W σ G H (fl ρ) Q → wp σ H Q) (tk : Takes X W) (s : SI TS X.K G_0 H_0 ρ σ G H fp) (p : PostS TS X W G_0 H_0 G D ((evL fl ρ).bind k))
    (next : ∀ (v : V) (ds : List Pyr.D) (G1 H1 : Hp), Gr TS G H G1 H1 → RelL X.K H G1 H1 v ds → PostS TS X W G_0 H_0 G D (k ds) → R v H1) : wp σ H R := by
  rcases evL_cases fl ρ with e1 | e1
  · rw [e1] at p
    exact he W (purE ρ) σ G H R tk s.pure s.gr.ok (stP s p next)
  · rw [e1, bind_bind] at p
    refine he W (frzE ρ) σ (noTb H) H R tk s.frz (ok_noTb s.gr.ok) (stB s p fun v ds G1 H1 g r p => ?_)
    by_cases hf : ds.all flat0 = true
    · rw [if_pos hf] at p
      obtain ⟨q, vs, rfl, h0, g0, hp, r⟩ := r
      exact next _ ds G H1 (gr_noTb s.gr.ok g) ⟨q, vs, rfl, h0, fresh_back s.gr.ok.le h0, hp, flats_any hf r⟩ p
    · rw [if_neg hf] at p
      exact p.elim
theorem evL_run {k : List Pyr.D → Res Fl} {R : VK} (he : DL TS X e fl) (tk : Takes X W) (s : SI TS X.K G_0 H_0 ρ σ G H fp) (p : PostS TS X W G_0 H_0 G D ((evL fl ρ).bind k))
    (next : ∀ (v : V) (ds : List Pyr.D) (G1 H1 : Hp), Gr TS G H G1 H1 → RelL X.K H G1 H1 v ds → PostS TS X W G_0 H_0 G D (k ds) → R v H1) : wpE X e σ H R := evL_gen he tk s p next
theorem evT_run {k : Bool → Res Fl} {R : Bool → Hp → Prop} (he : DT TS X e ft) (tk : Takes X W) (s : SI TS X.K G_0 H_0 ρ σ G H fp) (p : PostS TS X W G_0 H_0 G D ((evT ft ρ).bind k))
    (next : ∀ (b : Bool) (H1 : Hp), Gr TS G H G H1 → PostS TS X W G_0 H_0 G D (k b) → R b H1) : wpT X e σ H R := by
  unfold evT at p
  refine he W (frzE ρ) σ (noTb H) H R tk s.frz (ok_noTb s.gr.ok) (stB s p fun v b G1 H1 g r p => ?_)
  subst r
  exact next v H1 (gr_noTb s.gr.ok g) p
theorem dss_nil : DSs TS X [] sNext := .mk fun W ρ σ G_0 H_0 G H fp D tk s p => wpSs_of pss_nil (p σ G H fp (Ex.refl G) s)
theorem dss_cons (h1 : DSt TS X st F1) (h2 : DSs TS X rest F2) : DSs TS X (st :: rest) (sSeq F1 F2) := by
  refine ⟨?_⟩
  intro W ρ σ G_0 H_0 G H fp D tk s p
  refine wpSs_of (pss_cons (ps_wp X st) (pss_wp X rest)) ?_
  refine h1 W ρ σ G_0 H_0 G H fp { D with nx := wpSs X rest D } tk s ?_
  unfold sSeq at p
  revert p
  generalize F1 ρ = r
  intro p
  induction r with
  | ok fl =>
    cases fl with
    | next ρ' => exact fun σ' G' H' fp' e s' => h2 W ρ' σ' G_0 H_0 G' H' fp' D tk s' (p.shift e)
    | ret r =>
      cases r with
      | val d => exact p
      | own ds => exact p
      | ownU dss => exact p
      | ownM xs d ys => exact p
    | brk ρ' => exact p
    | cont ρ' => exact p
  | exc c fs => exact p
  | bad => exact p
  | alt f ih => exact fun i => ih i (p i)
theorem dss_one (h1 : DSt TS X st F1) : DSs TS X [st] F1 := .mk fun W ρ σ G_0 H_0 G H fp D tk s p => wpSs_of (pss_one (ps_wp X st)) (h1 W ρ σ G_0 H_0 G H fp D tk s p)
theorem dss_frz {i : Nat} (h : DSs TS X rest F) : DSs TS X rest (sFrz i F) := by
  refine ⟨?_⟩
  intro W ρ σ G_0 H_0 G H fp D tk s p
  unfold sFrz at p
  split at p
  · rename_i ds hi
    obtain ⟨G1, e, s1⟩ := s.freeze hi
    exact h W _ σ G_0 H_0 G1 H fp D tk s1 (p.shift e)
  · exact h W ρ σ G_0 H_0 G H fp D tk s p
theorem ds_if (hc : DT TS X c ft) (h1 : DSs TS X b1 F1) (h2 : DSs TS X b2 F2) : DSt TS X (.If c b1 b2 pos) (sIf ft F1 F2) := by
  refine ⟨?_⟩
  intro W ρ σ G_0 H_0 G H fp D tk s p
  refine wpSt_of (ps_if (pt_wp X c) (pss_wp X b1) (pss_wp X b2)) ?_
  refine evT_run hc tk s p fun b H1 g p => ?_
  cases b with
  | true => exact iteT (h1 W ρ σ G_0 H_0 G H1 fp D tk (s.grow g) p)
  | false => exact iteF (h2 W ρ σ G_0 H_0 G H1 fp D tk (s.grow g) p)
theorem ds_set (i : Nat) {x : Str} {pos' : Pos} (he : DE TS X e fe) (C : CtE X) (hi : X.N[i]? = some x := by rfl) (hx : Loc X.env.scope x := by first | exact Or.inl rfl | exact Or.inr rfl) (hs : swapsWith e (some (.Name x pos')) pos.line X.env = pure false := by rfl) (hf : X.fn x = true ∨ X.env.scope.names.lookup x = some .local := by first | exact .inl rfl | exact .inr rfl) :
    DSt TS X (.Assign [.Name x pos'] e pos) (sSet i fe) := by
  refine ⟨?_⟩
  intro W ρ σ G_0 H_0 G H fp D tk s p
  refine wpSt_of (ps_set C.nd hi hx (pe_wp X e) hs hf) ?_
  exact evP_run he tk s p fun v d G1 H1 g r p => p _ G1 H1 fp g.g ((s.grow g).setVal r)
theorem SI.storeL {i : Nat} {v : V} {ds : List Pyr.D} (s : SI TS X.K G_0 H_0 ρ σ G H fp) (g : Gr TS G H G1 H1) (r : RelL X.K H G1 H1 v ds) : ∃ fp', SI TS X.K G_0 H_0 (ρ.set i (.own (.lst ds))) (σ.set i (some v)) G1 H1 fp' := by
  obtain ⟨q, vs, rfl, h0, g0, hp, r⟩ := r
  refine ⟨_, (s.grow g).setOwn (.lst hp r) (fun a ha => ?_) fun j u hj _ a ha hb => ?_⟩
  · rw [List.mem_singleton.mp ha]
    exact ⟨g0, s.gr.h.old q h0⟩
  · rw [List.mem_singleton.mp ha] at hb
    obtain ⟨v2, _, h2⟩ := s.own j u hj
    obtain ⟨w, hw, _⟩ := h2.there q hb
    rw [h0] at hw
    cases hw
theorem ds_setL (i : Nat) {x : Str} {pos' : Pos} (he : DL TS X e fl) (C : CtE X) (hi : X.N[i]? = some x := by rfl) (hx : Loc X.env.scope x := by first | exact Or.inl rfl | exact Or.inr rfl) (hs : swapsWith e (some (.Name x pos')) pos.line X.env = pure false := by rfl) (hf : X.fn x = true ∨ X.env.scope.names.lookup x = some .local := by first | exact .inl rfl | exact .inr rfl) :
    DSt TS X (.Assign [.Name x pos'] e pos) (sSetL i fl) := by
  refine ⟨?_⟩
  intro W ρ σ G_0 H_0 G H fp D tk s p
  refine wpSt_of (ps_set C.nd hi hx (pe_wp X e) hs hf) ?_
  refine evL_run he tk s p fun v ds G1 H1 g r p => ?_
  obtain ⟨fp', s'⟩ := s.storeL (i := i) g r
  exact p _ G1 H1 fp' g.g s'
theorem ds_ret (he : DE TS X e fe) : DSt TS X (.Return (some e) pos) (sRet fe) := by
  refine ⟨?_⟩
  intro W ρ σ G_0 H_0 G H fp D tk s p
  refine wpSt_of (ps_ret (pe_wp X e)) ?_
  exact evP_run he tk s p fun v d G1 H1 g r p => p v G1 H1 (s.gr.trans g) r
theorem ds_retL (he : DL TS X e fl) : DSt TS X (.Return (some e) pos) (sRetL fl) := by
  refine ⟨?_⟩
  intro W ρ σ G_0 H_0 G H fp D tk s p
  refine wpSt_of (ps_ret (pe_wp X e)) ?_
  refine evL_run he tk s p fun v ds G1 H1 g r p => ?_
  obtain ⟨q, vs, rfl, h0, g0, hp, r⟩ := r
  exact p _ G1 H1 (s.gr.trans g) ⟨q, vs, rfl, s.gr.h.old q h0, g0, hp, r⟩
theorem own_at {i : Nat} {ds : List Pyr.D} (s : SI TS X.K G_0 H_0 ρ σ G H fp) (hi : ρ[i]? = some (Sl.own (.lst ds))) : ∃ q vs, σ[i]? = some (some (.ref q)) ∧ H q = some (.lst vs) ∧ Rps X.K G vs ds ∧ G q = none ∧ H_0 q = none := by
  obtain ⟨v, hv, ro⟩ := s.own i _ hi
  have hfr := s.free i _ hi
  generalize fp i = l at ro hfr
  cases ro with
  | lst h r =>
    obtain ⟨z1, z2⟩ := hfr _ (List.mem_singleton.mpr rfl)
    exact ⟨_, _, hv, h, r, z1, z2⟩
theorem ds_retO (i : Nat) {x : Str} {pos' : Pos} (hN : X.N[i]? = some x := by rfl) (hv : Vis X.env.scope x := by first | exact Or.inl rfl | exact Or.inr (Or.inl rfl) | exact Or.inr (Or.inr rfl)) (hd : (x == ("__debug__" : Str)) = false := by decide) (hcd : (x == ("__classdict__" : Str)) = false := by decide) :
    DSt TS X (.Return (some (.Name x pos')) pos) (sRetO i) := by
  refine ⟨?_⟩
  intro W ρ σ G_0 H_0 G H fp D tk s p
  refine wpSt_of (ps_ret (pe_var hN hv hd hcd)) ?_
  unfold sRetO at p
  split at p
  · rename_i ds hi
    obtain ⟨q, vs, h1, h2, r, z1, z2⟩ := own_at s hi
    exact ⟨_, h1, p _ G H s.gr ⟨q, vs, rfl, z2, z1, h2, r⟩⟩
  · exact p.elim
theorem ds_drop (he : DE TS X e fe) (hs : swapsWith e none pos.line X.env = pure false := by rfl) : DSt TS X (.Expr e pos) (sDrop fe) := by
  refine ⟨?_⟩
  intro W ρ σ G_0 H_0 G H fp D tk s p
  refine wpSt_of (ps_expr (pe_wp X e) hs) ?_
  exact evP_run he tk s p fun v d G1 H1 g r p => p σ G1 H1 fp g.g (s.grow g)
theorem ds_app (i : Nat) {x : Str} {pos' apos cpos : Pos} (he : DE TS X e fe) (hN : X.N[i]? = some x := by rfl) (hv : Vis X.env.scope x := by first | exact Or.inl rfl | exact Or.inr (Or.inl rfl) | exact Or.inr (Or.inr rfl)) (hd : (x == ("__debug__" : Str)) = false := by decide) (hcd : (x == ("__classdict__" : Str)) = false := by decide)
    (hbase : attributeBase (.Name x pos') "append" X.env (eval (.Name x pos') X.env) = eval (.Name x pos') X.env := by rfl)
    (hfew : ((backTo cpos (starEach [e] X.env)).all (fun x => !x.1) && (backToKw cpos (keywordEach [] X.env)).all (fun x => x.1.isSome)
      && decide ([e].length + ([] : List Keyword).length + (if ([] : List Keyword).isEmpty then 0 else 1) < 30)) = true := by rfl)
    (hline : (apos.endLine == cpos.line) = true := by rfl) (hs : starEach [e] X.env = (false, eval e X.env) :: starEach [] X.env := by rfl) (hplain : (backTo cpos (starEach [] X.env)).any (·.1) = false := by rfl)
    (hsw : swapsWith (.Call (.Attribute (.Name x pos') "append" apos) [e] [] cpos) none pos.line X.env = pure false := by rfl) :
    DSt TS X (.Expr (.Call (.Attribute (.Name x pos') "append" apos) [e] [] cpos) pos) (sApp i fe) := by
  refine ⟨?_⟩
  intro W ρ σ G_0 H_0 G H fp D tk s p
  refine wpSt_of (ps_expr (pe_bm PySem.F.plainAttrs_list PySem.F.slot_list_append PySem.F.type_list_append mt_append (pe_var hN hv hd hcd) (pa_cons (pe_wp X e) pa_nil hs) hbase hfew hline hs hplain) hsw) ?_
  unfold sApp at p
  split at p
  · rename_i ds hi
    obtain ⟨q, vs, h1, h2, r, z1, z2⟩ := own_at s hi
    refine ⟨_, h1, Or.inl ⟨rfl, vs, SqL.of h2⟩, ?_⟩
    refine evP_run he tk s p fun v d G1 H1 g rv p => ?_
    have hp : ds.length + 1 ≤ LIM ∧ PostS TS X W G_0 H_0 G D (.ok (.next (ρ.set i (.own (.lst (ds ++ [d])))))) := by
      unfold okL at p
      split at p
      · exact ⟨by assumption, p⟩
      · exact p.elim
    have hq : H1 q = some (.lst vs) := g.h.at h2 rfl
    refine ⟨q, vs, v, rfl, rfl, hq, ?_, ?_⟩
    · rw [r.len]
      exact Nat.lt_of_lt_of_le hp.1 (by decide)
    · exact hp.2 σ G1 _ fp g.g ((s.grow g).change hi h1 ((r.mono g.g).app (.cons rv .nil)))
  · exact p.elim
theorem ds_put (i : Nat) {x : Str} {j : Expr} {pos' spos : Pos} (he : DE TS X e fe) (hj : DE TS X j fj) (hN : X.N[i]? = some x := by rfl) (hv : Vis X.env.scope x := by first | exact Or.inl rfl | exact Or.inr (Or.inl rfl) | exact Or.inr (Or.inr rfl)) (hd : (x == ("__debug__" : Str)) = false := by decide) (hcd : (x == ("__classdict__" : Str)) = false := by decide)
    (ha : ∀ v, assign (.Subscript (.Name x pos') j spos) X.env v = (do
      let ov ← holding [v] (eval (.Name x pos') X.env)
      let iv ← holding [v, ov] (eval j X.env)
      standAt spos
      holding [v, ov, iv] (setItem ov iv v)
      release [v, ov, iv] []) := by intro _; rfl)
    (hs : swapsWithSole [.Subscript (.Name x pos') j spos] e pos.line X.env = pure false := by rfl) (hw : swappedStores [.Subscript (.Name x pos') j spos] e X.env = pure none := by rfl)
    (h1 : (assignEach [.Subscript (.Name x pos') j spos] X.env).map (·.2) = [assign (.Subscript (.Name x pos') j spos) X.env] := by rfl) :
    DSt TS X (.Assign [.Subscript (.Name x pos') j spos] e pos) (sPut i fj fe) := by
  refine ⟨?_⟩
  intro W ρ σ G_0 H_0 G H fp D tk s p
  refine wpSt_of (ps_asg (pe_wp X e) (pg_sub (pe_var hN hv hd hcd) (pe_wp X j) set_list ha) hs hw h1) ?_
  unfold sPut at p
  split at p
  · rename_i ds hi
    refine evP_run he tk s p fun v d G1 H1 g rv p => ?_
    obtain ⟨q, vs, h1, h2, r, z1, z2⟩ := own_at (s.grow g) hi
    refine ⟨_, h1, ?_⟩
    refine evP_run hj tk (s.grow g) (p.shift g.g) fun w dj G2 H2 g2 rw' p => ?_
    cases rw' with
    | int k =>
      have p : PostS TS X W G_0 H_0 G1 D (match ixN ds.length k with
        | some n => .ok (.next (ρ.set i (.own (.lst (ds.set n d)))))
        | none => .bad) := p
      cases hx : ixN ds.length k with
      | none =>
        rw [hx] at p
        exact p.elim
      | some n =>
        rw [hx] at p
        have hq : H2 q = some (.lst vs) := g2.h.at h2 rfl
        refine ⟨q, vs, k, n, rfl, rfl, hq, by rw [r.len]; exact hx, ?_⟩
        exact p σ G2 _ fp g2.g (((s.grow g).grow g2).change hi h1 ((r.mono g2.g).put (rv.mono g2.g) n))
    | _ => exact p.elim
  · exact p.elim
end
def frm0 (n : Nat) (ds : List D) : Frm := ds.map Sl.val ++ List.replicate (n - ds.length) Sl.emp
def outR : Res Fl → Res RV
  | .ok (.next _) => .ok (.val .none)
  | .ok (.ret r) => .ok r
  | .exc c fs => .exc c fs
  | .alt f => .alt fun i => outR (f i)
  | _ => .bad
def defM (np n : Nat) (F : Frm → Res Fl) : List D → Res RV := fun ds => if ds.length = np then outR (F (frm0 n ds)) else .bad
theorem SI.start {TS : TabList} {K : PySem.W.Frag} {G H : Hp} {vs : List V} {ds : List D} {N : List Str} (k : Ok0 TS G H) (r : Rps K G vs ds) : SI TS K G H (frm0 N.length ds) (start N vs) G H (fun _ => []) := by
  have noOwn : ∀ {i : Nat} {o : Own}, ¬ (frm0 N.length ds)[i]? = some (Sl.own o) := fun {i o} h => by
    have m := List.mem_of_getElem? h
    unfold frm0 at m
    rcases List.mem_append.mp m with m | m
    · obtain ⟨d, _, e⟩ := List.mem_map.mp m
      cases e
    · have e := (List.mem_replicate.mp m).2
      cases e
  refine ⟨Gr.refl k, by simp [frm0, L2.start, r.len], fun i d h => ?_, fun i o h => (noOwn h).elim, fun i j o u h => (noOwn h).elim, fun i o h => (noOwn h).elim⟩
  unfold frm0 at h
  by_cases hi : i < ds.length
  · rw [List.getElem?_append_left (by simpa using hi), List.getElem?_map] at h
    cases e : ds[i]? with
    | none =>
      rw [e] at h
      cases h
    | some d' =>
      rw [e] at h
      cases h
      obtain ⟨v, h1, h2⟩ := r.at e
      refine ⟨v, ?_, h2⟩
      unfold L2.start
      have hv : i < vs.length := (List.getElem?_eq_some_iff.mp h1).1
      rw [List.getElem?_append_left (by simpa using hv), List.getElem?_map, h1]
      rfl
  · rw [List.getElem?_append_right (by simpa using Nat.le_of_not_lt hi)] at h
    have e := (List.mem_replicate.mp (List.mem_of_getElem? h)).2
    cases e
theorem room_ct {k : Nat} {A : Around} (h : Room k A) : A.units + 65 < cLine := by have := h.un; omega
end Pyr
set_option Elab.async false
set_option autoImplicit false
set_option linter.all false
set_option maxRecDepth 100000
set_option maxHeartbeats 1000000
namespace Pyr
open PySem PySem.Spec PyProof.Rows L2 Evl
def Walker (TS : TabList) (K : PySem.W.Frag) (J : It) (ds : List D) (G : Hp) : Prop := ∀ (G1 H : Hp), Ex G G1 → Ok0 TS G1 H →
  (∀ (i : Nat) (x : D), ds[i]? = some x → J.go i H ∧ ∀ v H', J.yld i H v H' → ∃ G', Gr TS G1 H G' H' ∧ Rp K G' v x) ∧ J.stop ds.length H
abbrev RelJ' (TS : TabList) (K : PySem.W.Frag) : Hp → Hp → Hp → It → List D → Prop := fun _ G' _ J ds => Walker TS K J ds G'
theorem back_J {TS : TabList} {K : PySem.W.Frag} : Back (RelJ' TS K) := fun _ _ _ _ _ _ _ h => h
def wpIt (X : Cx) (tg iter : Expr) : TI := fun σ H R => ∀ (pins : List (Addr × Obj)) (s : Shared), Inv X pins σ H s → wpAny (model X.prog X.w) X.A (eval iter X.env) (fun v s1 => wpAny (model X.prog X.w) X.A (pyIter v) (PIE X pins σ tg R) X.xe s1) X.xe s
theorem pi_wp (X : Cx) (tg iter : Expr) : PI X tg iter (wpIt X tg iter) := ⟨fun pins s _ _ _ I h => h pins s I⟩
theorem wpIt_of {X : Cx} {tg iter : Expr} {t : TI} {σ : L2.St} {H : Hp} {R : It → Hp → Prop} (h : PI X tg iter t) (q : t σ H R) : wpIt X tg iter σ H R := fun pins s I => h.run pins s σ H R I q
structure DI (TS : TabList) (X : Cx) (tg iter : Expr) (f : En → Res (List D)) : Prop where
  run : ∀ (W : WX) (ρ : En) (σ : L2.St) (G H : Hp) (R : It → Hp → Prop), Takes X W → RpE TS X.K G H ρ σ → Ok0 TS G H → PostG (RelJ' TS X.K) TS X W σ G H (f ρ) R → wpIt X tg iter σ H R
instance {TS : TabList} {X : Cx} {tg iter : Expr} {f : En → Res (List D)} : CoeFun (DI TS X tg iter f) fun _ => ∀ (W : WX) (ρ : En) (σ : L2.St) (G H : Hp) (R : It → Hp → Prop), Takes X W → RpE TS X.K G H ρ σ → Ok0 TS G H → PostG (RelJ' TS X.K) TS X W σ G H (f ρ) R → wpIt X tg iter σ H R := ⟨DI.run⟩
def signsD (x : Str) : List D := x.cps.toList.map fun c => .str ⟨#[c]⟩
def walkD : D → Res (List D)
  | .list ds => .ok ds
  | .tuple ds => .ok ds
  | .str x => .ok (signsD x)
  | _ => .bad
def iF (g : D → Res (List D)) (fa : En → Res D) : En → Res (List D) := fun ρ => (fa ρ).bind g
section
variable {TS : TabList} {X : Cx} {tg a b : Expr} {fa fb : En → Res D} {es : List Expr} {fr : En → Res (List D)} {pos : Pos}
theorem walker_list {q : Addr} {xs : List V} {ds : List D} {G : Hp} (h : SqL X.K G q xs) (r : Rps X.K G xs ds) : Walker TS X.K (Itl X.K q) ds G := by
  intro G1 H e ok
  have h1 : SqL X.K H q xs := ex_l (e.trans ok.le) h
  refine ⟨fun i x hx => ?_, ⟨xs, h1, by rw [r.len]; exact Nat.le_refl _⟩⟩
  obtain ⟨v, hv, rv⟩ := r.at hx
  refine ⟨⟨xs, v, h1, hv⟩, fun v' H' y => ?_⟩
  obtain ⟨rfl, y⟩ := y
  have e2 : some v' = some v := (y xs h1).symm.trans hv
  cases e2
  exact ⟨G1, Gr.refl ok, rv.mono e⟩
theorem walker_tup {q : Addr} {xs : List V} {ds : List D} {G : Hp} (h : SqT X.K G q xs) (r : Rps X.K G xs ds) : Walker TS X.K (Itt X.K q) ds G := by
  intro G1 H e ok
  have h1 : SqT X.K H q xs := ex_t (e.trans ok.le) h
  refine ⟨fun i x hx => ?_, ⟨xs, h1, by rw [r.len]; exact Nat.le_refl _⟩⟩
  obtain ⟨v, hv, rv⟩ := r.at hx
  refine ⟨⟨xs, v, h1, hv⟩, fun v' H' y => ?_⟩
  obtain ⟨rfl, y⟩ := y
  have e2 : some v' = some v := (y xs h1).symm.trans hv
  cases e2
  exact ⟨G1, Gr.refl ok, rv.mono e⟩
theorem walker_str {x : Str} {G : Hp} : Walker TS X.K (Its x) (signsD x) G := by
  intro G1 H e ok
  have hs : (signsD x).length = x.cps.size := by unfold signsD; simp
  refine ⟨fun i d hd => ?_, by rw [hs]; exact Nat.le_refl _⟩
  have hi : i < x.cps.size := by rw [← hs]; exact (List.getElem?_eq_some_iff.mp hd).1
  refine ⟨hi, fun v' H' y => ?_⟩
  obtain ⟨rfl, c, hc, rfl⟩ := y
  unfold signsD at hd
  rw [List.getElem?_map, Array.getElem?_toList, hc] at hd
  cases hd
  exact ⟨G1, Gr.refl ok, .str _⟩
def iSome (K : PySem.W.Frag) (te : TE) : TI := fun σ H R => te σ H fun v H1 => (∃ q, v = .ref q ∧ (∃ ys, SqL K H1 q ys) ∧ R (Itl K q) H1) ∨ (∃ q, v = .ref q ∧ (∃ ys, SqT K H1 q ys) ∧ R (Itt K q) H1) ∨ ∃ z, v = .str z ∧ R (Its z) H1
theorem pi_some {te : TE} (ha : PE X a te) : PI X tg a (iSome X.K te) := by
  constructor
  intro pins s σ H R I h
  refine thn (ha.run pins s σ H _ I h) ?_
  rintro w s1 ⟨v, H1, I1, rd, (⟨q, rfl, ⟨ys, hy⟩, hr⟩ | ⟨q, rfl, ⟨ys, hy⟩, hr⟩ | ⟨z, rfl, hr⟩)⟩
  · cases rd
    obtain ⟨its, _, lay, _⟩ := I1.list hy
    exact wpAny_pyIter_list lay.isList (pi_one (tk := s1.toks) I1 _ (turn_list q _) ⟨_, Heap.get?_push_size _ rfl, rfl, rfl⟩ hr)
  · cases rd
    obtain ⟨its, _, lay, _⟩ := I1.tuple hy
    exact wpAny_pyIter_tuple (items := its.toArray) lay (pi_one (tk := s1.toks) I1 _ (turn_tuple q _) ⟨_, Heap.get?_push_size _ rfl, rfl, rfl⟩ hr)
  · obtain ⟨t, rfl⟩ := rd
    by_cases ha : z.cps.all (· < 128) = true
    · exact wpAny_pyIter_ascii ha (pi_one (tk := s1.toks) I1 _ (turn_str _ z t "str_ascii_iterator" (.inl rfl)) ⟨_, Heap.get?_push_size _ rfl, rfl, rfl⟩ hr)
    · exact wpAny_pyIter_wide (Bool.eq_false_iff.mpr ha) (pi_one (tk := s1.toks) I1 _ (turn_str _ z t "str_iterator" (.inr rfl)) ⟨_, Heap.get?_push_size _ rfl, rfl, rfl⟩ hr)
theorem di_any (ha : DE TS X a fa) : DI TS X tg a (iF walkD fa) := by
  refine ⟨?_⟩
  intro W ρ σ G H R tk re ok post
  refine wpIt_of (pi_some (pe_wp X a)) ?_
  refine bindP (wp := fun R => wpE X a σ H R) back_J (fun Q' p => ha W ρ σ G H Q' tk re ok p) post fun v x G1 H1 _ g1 rx p => ?_
  cases x with
  | list ds =>
    obtain ⟨q, xs, rfl, hq, r⟩ := rx.list_inv
    exact .inl ⟨q, rfl, ⟨xs, ex_l g1.ok.le hq⟩, p _ G1 H1 (Gr.refl g1.ok) (walker_list hq r)⟩
  | tuple ds =>
    obtain ⟨q, xs, rfl, hq, r⟩ := rx.tup_inv
    exact .inr (.inl ⟨q, rfl, ⟨xs, ex_t g1.ok.le hq⟩, p _ G1 H1 (Gr.refl g1.ok) (walker_tup hq r)⟩)
  | str z =>
    cases rx
    exact .inr (.inr ⟨z, rfl, p _ G1 H1 (Gr.refl g1.ok) walker_str⟩)
  | _ => exact p.elim
def upto (lo : Int) : Nat → List D
  | 0 => []
  | n + 1 => .int lo :: upto (lo + 1) n
theorem upto_len : ∀ (n : Nat) (lo : Int), (upto lo n).length = n
  | 0, _ => rfl
  | n + 1, lo => by show (upto (lo + 1) n).length + 1 = n + 1; rw [upto_len n]
theorem upto_at : ∀ (n : Nat) (lo : Int) (i : Nat) (d : D), (upto lo n)[i]? = some d → d = .int (lo + i)
  | 0, _, _, _, h => by simp [upto] at h
  | n + 1, lo, 0, d, h => by
    have e : some (PyData.int lo) = some d := h
    cases e
    simp
  | n + 1, lo, i + 1, d, h => by
    rw [upto_at n (lo + 1) i d h]
    congr 1
    omega
theorem walker_range {lo : Int} {n : Nat} {G : Hp} : Walker TS X.K (Itr lo n) (upto lo n) G := by
  intro G1 H e ok
  refine ⟨fun i d hd => ?_, by rw [upto_len]; exact Nat.le_refl _⟩
  have hi : i < n := by rw [← upto_len n lo]; exact (List.getElem?_eq_some_iff.mp hd).1
  refine ⟨hi, fun v' H' y => ?_⟩
  obtain ⟨rfl, rfl⟩ := y
  rw [upto_at n lo i d hd]
  exact ⟨G1, Gr.refl ok, .int _⟩
def r1D : D → Res (List D)
  | .int n => if -(2 ^ 62) ≤ n ∧ n < 2 ^ 62 then .ok (upto 0 n.toNat) else .bad
  | _ => .bad
def iF2 (g : D → D → Res (List D)) (fa fb : En → Res D) : En → Res (List D) := fun ρ => (fa ρ).bind fun x => (fb ρ).bind fun y => g x y
theorem di_range1 {p : Pos} (hg : Gl X "range") (hm : X.mg "range" = none) (ha : DE TS X a fa) (hs : starEach [a] X.env = [(false, eval a X.env)] := by rfl) : DI TS X tg (.Call (.Name "range" p) [a] [] pos) (iF r1D fa) := by
  refine ⟨?_⟩
  intro W ρ σ G H R tk re ok post
  refine wpIt_of (pi_range1 hg hm (pa_cons (pe_wp X a) pa_nil hs) hs) ?_
  refine bindP (wp := fun R => wpE X a σ H R) back_J (fun Q' p => ha W ρ σ G H Q' tk re ok p) post fun v x G1 H1 _ g1 rx p => ?_
  unfold r1D at p
  split at p
  · cases rx
    split at p
    · rename_i h
      exact ⟨_, rfl, h.1, h.2, p _ G1 H1 (Gr.refl g1.ok) walker_range⟩
    · exact p.elim
  · exact p.elim
def enumL : Nat → List D → List D
  | _, [] => []
  | n, d :: ds => .tuple [.int n, d] :: enumL (n + 1) ds
theorem enum_len : ∀ (ds : List D) (n : Nat), (enumL n ds).length = ds.length
  | [], _ => rfl
  | d :: ds, n => by show (enumL (n + 1) ds).length + 1 = ds.length + 1; rw [enum_len ds]
theorem enum_at : ∀ (ds : List D) (n i : Nat) (x : D), (enumL n ds)[i]? = some x → ∃ d, ds[i]? = some d ∧ x = .tuple [.int ((n + i : Nat) : Int), d]
  | [], _, _, _, h => by simp [enumL] at h
  | d :: ds, n, 0, x, h => by
    have e : some (PyData.tuple [.int n, d]) = some x := h
    cases e
    exact ⟨d, rfl, by simp⟩
  | d :: ds, n, i + 1, x, h => by
    obtain ⟨y, h1, h2⟩ := enum_at ds (n + 1) i x h
    refine ⟨y, by simpa using h1, ?_⟩
    rw [h2]
    congr 3
    omega
def enumD : D → Res (List D)
  | .list ds => .ok (enumL 0 ds)
  | _ => .bad
theorem pair_new {K : PySem.W.Frag} {G H : Hp} {T : Addr} {v u : V} {x y : D} (ok : Ok0 TS G H) (h : H T = none) (r1 : Rp K G v x) (r2 : Rp K G u y) : ∃ G', Gr TS G H G' (upd H T (.tup [v, u])) ∧ Rp K G' (.ref T) (.tuple [x, y]) := by
  have g := Gr.new (o := .tup [v, u]) ok h
  exact ⟨_, g, .tup (.inl (.inl upd_same)) (.cons (r1.mono g.g) (.cons (r2.mono g.g) .nil))⟩
theorem di_enum {elts : List Expr} {kk : Nat} {p tpos : Pos} (hg : Gl X "enumerate") (hm : X.mg "enumerate" = none) (ha : DE TS X a fa) (hs : starEach [a] X.env = [(false, eval a X.env)] := by rfl) : DI TS X (.Tuple elts kk tpos) (.Call (.Name "enumerate" p) [a] [] pos) (iF enumD fa) := by
  refine ⟨?_⟩
  intro W ρ σ G H R tk re ok post
  refine wpIt_of (pi_enum hg hm (pa_cons (pe_wp X a) pa_nil hs) hs) ?_
  refine bindP (wp := fun R => wpE X a σ H R) back_J (fun Q' p => ha W ρ σ G H Q' tk re ok p) post fun v x G1 H1 _ g1 rx p => ?_
  unfold enumD at p
  split at p
  · rename_i ds _
    obtain ⟨q, xs, rfl, hq, r⟩ := rx.list_inv
    refine ⟨q, xs, rfl, ex_l g1.ok.le hq, p _ G1 H1 (Gr.refl g1.ok) ?_⟩
    intro G2 H2 e ok2
    have h1 : SqL X.K H2 q xs := ex_l (e.trans ok2.le) hq
    refine ⟨fun i x hx => ?_, ⟨xs, h1, by rw [r.len, enum_len]; exact Nat.le_refl _⟩⟩
    obtain ⟨d, hd, rfl⟩ := enum_at ds 0 i x hx
    obtain ⟨v, hv, rv⟩ := r.at hd
    refine ⟨⟨xs, v, h1, hv⟩, fun v' H' y => ?_⟩
    obtain ⟨T, z, rfl, hT, rfl, hz⟩ := y
    have e2 : some z = some v := (hz xs h1).symm.trans hv
    cases e2
    have r0 : Rp X.K G2 (.int ((i : Nat) : Int)) (.int ((0 + i : Nat) : Int)) := by rw [Nat.zero_add]; exact .int _
    exact pair_new ok2 hT r0 (rv.mono e)
  · exact p.elim
end
inductive Tg where
  | nm (i : Nat)
  | tp (is : List Nat)
def gMany : List Nat → TGs
  | [] => gNil
  | i :: is => gCons (gName i) (gMany is)
def gTg (K : PySem.W.Frag) : Tg → TG
  | .nm i => gName i
  | .tp is => gTup K is.length (gMany is)
def Tg.all : Tg → List Nat
  | .nm i => [i]
  | .tp is => is
def setsE : List Nat → List D → En → En
  | i :: is, d :: ds, ρ => setsE is ds (ρ.set i (some d))
  | _, _, ρ => ρ
def tgE : Tg → D → En → Res En
  | .nm i, d, ρ => .ok (ρ.set i (some d))
  | .tp is, .tuple ds, ρ => if ds.length = is.length then .ok (setsE is ds ρ) else .bad
  | _, _, _ => .bad
def setsF : List Nat → List D → Frm → Frm
  | i :: is, d :: ds, ρ => setsF is ds (ρ.set i (.val d))
  | _, _, ρ => ρ
def tgF : Tg → D → Frm → Res Frm
  | .nm i, d, ρ => .ok (ρ.set i (.val d))
  | .tp is, .tuple ds, ρ => if ds.length = is.length then .ok (setsF is ds ρ) else .bad
  | _, _, _ => .bad
section
variable {TS : TabList} {K : PySem.W.Frag} {G_0 H_0 G H : Hp} {fp : Nat → List Addr}
theorem RpE.set {ρ : En} {σ : L2.St} {i : Nat} {v : V} {d : D} (h : RpE TS K G H ρ σ) (r : Rp K G v d) : RpE TS K G H (ρ.set i (some d)) (σ.set i (some v)) := by
  refine ⟨by simpa using h.len, fun j d' e z => ?_, fun j ds e => ?_, fun j ds e => ?_, fun j c e => ?_⟩
  · rcases set_at e with ⟨rfl, e, hl⟩ | ⟨ne, e⟩
    · cases e
      exact ⟨v, List.getElem?_set_self (Nat.lt_of_lt_of_le hl h.len), r⟩
    · rw [List.getElem?_set_ne ne]
      exact h.at' j d' e z
  · rcases set_at e with ⟨rfl, e, hl⟩ | ⟨ne, e⟩
    · cases e
      exact absurd r.notLo (by simp [isLo])
    · rw [List.getElem?_set_ne ne]
      exact h.lo j ds e
  · rcases set_at e with ⟨rfl, e, hl⟩ | ⟨ne, e⟩
    · cases e
      exact absurd r.notLo (by simp [isLo])
    · rw [List.getElem?_set_ne ne]
      exact h.st j ds e
  · rcases set_at e with ⟨rfl, e, hl⟩ | ⟨ne, e⟩
    · cases e
      exact absurd r.notLo (by simp [isLo])
    · rw [List.getElem?_set_ne ne]
      exact h.ex j c e
theorem wipe_at {j : Nat} : ∀ (vs : List Nat) (τ : L2.St), (wipe τ vs)[j]? = if j ∈ vs then (τ[j]?).map (fun _ => none) else τ[j]? := by
  intro vs
  induction vs with
  | nil => intro τ; simp [wipe]
  | cons w ws ih =>
    intro τ
    show ((wipe τ ws).set w none)[j]? = _
    by_cases e : w = j
    · subst e
      rw [if_pos List.mem_cons_self, List.getElem?_set]
      rw [wipe_length]
      by_cases hl : w < τ.length
      · simp [hl]
      · simp [hl]
    · rw [List.getElem?_set_ne e, ih]
      by_cases m : j ∈ ws
      · rw [if_pos m, if_pos (List.mem_cons_of_mem _ m)]
      · rw [if_neg m, if_neg (fun z => (List.mem_cons.mp z).elim (fun q => e q.symm) m)]
theorem wipe_set {σ : L2.St} {i : Nat} {x : Option V} {vs : List Nat} (h : i ∈ vs) : wipe (σ.set i x) vs = wipe σ vs := by
  apply List.ext_getElem?
  intro j
  rw [wipe_at, wipe_at]
  by_cases e : i = j
  · subst e
    rw [if_pos h, if_pos h, List.getElem?_set]
    by_cases hl : i < σ.length
    · simp [hl]
    · simp [hl]
  · rw [List.getElem?_set_ne e]
theorem wipe_wipe (σ : L2.St) (vs : List Nat) : wipe (wipe σ vs) vs = wipe σ vs := by
  apply List.ext_getElem?
  intro j
  rw [wipe_at, wipe_at]
  by_cases m : j ∈ vs
  · rw [if_pos m, if_pos m]
    cases σ[j]? <;> rfl
  · rw [if_neg m, if_neg m]
theorem gMany_ok {Q : L2.St → Hp → Prop} {own : List Nat} : ∀ (is : List Nat) (ds : List D) (vs : List V) (ρ : En) (σ : L2.St), (∀ i ∈ is, i ∈ own) → ds.length = is.length → Rps K G vs ds → RpE TS K G H ρ σ →
    (∀ σ', RpE TS K G H (setsE is ds ρ) σ' → wipe σ' own = wipe σ own → Q σ' H) → gMany is vs σ H Q
  | [], [], _, ρ, σ, _, _, .nil, re, k => ⟨rfl, k σ re rfl⟩
  | i :: is, d :: ds, _, ρ, σ, ho, hl, .cons r rs, re, k => by
    refine ⟨_, _, rfl, ?_⟩
    refine gMany_ok is ds _ (ρ.set i (some d)) (σ.set i (some _)) (fun j hj => ho j (List.mem_cons_of_mem _ hj)) (by simpa using hl) rs (re.set r) fun σ' h1 h2 => k σ' h1 ?_
    rw [h2, wipe_set (ho i List.mem_cons_self)]
  | [], _ :: _, _, _, _, _, hl, _, _, _ => by simp at hl
  | _ :: _, [], _, _, _, _, hl, _, _, _ => by simp at hl
theorem gTg_ok {Q : L2.St → Hp → Prop} {own : List Nat} {t : Tg} {d : D} {v : V} {ρ ρ' : En} {σ : L2.St} (ok : Ok0 TS G H) (ho : ∀ i ∈ t.all, i ∈ own) (r : Rp K G v d) (re : RpE TS K G H ρ σ) (e : tgE t d ρ = .ok ρ')
    (k : ∀ σ', RpE TS K G H ρ' σ' → wipe σ' own = wipe σ own → Q σ' H) : gTg K t v σ H Q := by
  cases t with
  | nm i =>
    cases e
    exact k _ (re.set r) (wipe_set (ho i (by simp [Tg.all])))
  | tp is =>
    cases r <;> try cases e
    rename_i a xs ds h rs
    have e : (if ds.length = is.length then Res.ok (setsE is ds ρ) else .bad) = .ok ρ' := e
    split at e
    · rename_i hl
      cases e
      exact ⟨a, xs, rfl, ex_t ok.le h, by rw [rs.len, hl], gMany_ok is ds xs ρ σ ho hl rs re k⟩
    · cases e
theorem gManyF_ok {Q : L2.St → Hp → Prop} : ∀ (is : List Nat) (ds : List D) (vs : List V) (ρ : Frm) (σ : L2.St), ds.length = is.length → Rps K G vs ds → SI TS K G_0 H_0 ρ σ G H fp →
    (∀ σ', SI TS K G_0 H_0 (setsF is ds ρ) σ' G H fp → Q σ' H) → gMany is vs σ H Q
  | [], [], _, ρ, σ, _, .nil, re, k => ⟨rfl, k σ re⟩
  | i :: is, d :: ds, _, ρ, σ, hl, .cons r rs, re, k => ⟨_, _, rfl, gManyF_ok is ds _ (ρ.set i (.val d)) (σ.set i (some _)) (by simpa using hl) rs (re.setVal r) k⟩
  | [], _ :: _, _, _, _, hl, _, _, _ => by simp at hl
  | _ :: _, [], _, _, _, hl, _, _, _ => by simp at hl
theorem gTgF_ok {Q : L2.St → Hp → Prop} {t : Tg} {d : D} {v : V} {ρ ρ' : Frm} {σ : L2.St} (r : Rp K G v d) (s : SI TS K G_0 H_0 ρ σ G H fp) (e : tgF t d ρ = .ok ρ') (k : ∀ σ', SI TS K G_0 H_0 ρ' σ' G H fp → Q σ' H) : gTg K t v σ H Q := by
  cases t with
  | nm i =>
    cases e
    exact k _ (s.setVal r)
  | tp is =>
    cases r <;> try cases e
    rename_i a xs ds h rs
    have e : (if ds.length = is.length then Res.ok (setsF is ds ρ) else .bad) = .ok ρ' := e
    split at e
    · rename_i hl
      cases e
      exact ⟨a, xs, rfl, ex_t s.gr.ok.le h, by rw [rs.len, hl], gManyF_ok is ds xs ρ σ hl rs s k⟩
    · cases e
end
end Pyr
set_option Elab.async false
set_option autoImplicit false
set_option linter.all false
set_option maxRecDepth 100000
set_option maxHeartbeats 1000000
namespace Pyr
open PySem PySem.Spec PyProof.Rows L2 Evl
def noX {α : Type} : Res α → Res α
  | .exc _ _ => .bad
  | .alt f => .alt fun i => noX (f i)
  | r => r
def forF (t : Tg) (F : Frm → Res Fl) : List D → Frm → Res Fl
  | [], ρ => .ok (.next ρ)
  | d :: ds, ρ => (tgF t d ρ).bind fun ρ1 => (F ρ1).bind fun fl => match fl with
    | .next ρ2 => forF t F ds ρ2
    | .cont ρ2 => forF t F ds ρ2
    | .brk ρ2 => .ok (.next ρ2)
    | .ret r => .ok (.ret r)
def evI (fi : En → Res (List D)) (ρ : Frm) : Res (List D) := noX (fi (purE ρ))
def sFor (t : Tg) (fi : En → Res (List D)) (F : Frm → Res Fl) : Frm → Res Fl := fun ρ => (evI fi ρ).bind fun ds => forF t F ds ρ
def evR (fi : En → Res (List D)) (ρ : Frm) : Res (List D) := (noX (fi (frzE ρ))).bind fun ds => if ds.all flat0 then .ok ds else .bad
def sForR (t : Tg) (fi : En → Res (List D)) (F : Frm → Res Fl) : Frm → Res Fl := fun ρ => (evR fi ρ).bind fun ds => forF t F ds ρ
section
variable {TS : TabList} {X : Cx} {W : WX} {tg iter : Expr} {fi : En → Res (List D)} {F : Frm → Res Fl} {body : List Stmt} {pos : Pos} {t : Tg}
theorem tgF_exc {d : D} {ρ : Frm} {c : Str} {fs : List (Str × D)} : ¬ tgF t d ρ = .exc c fs := by
  intro h
  cases t with
  | nm i => cases h
  | tp is =>
    cases d <;> try cases h
    have h : (if (by assumption : List D).length = is.length then Res.ok (setsF is (by assumption) ρ) else .bad) = .exc c fs := h
    split at h <;> cases h
theorem tgF_alt {d : D} {ρ : Frm} {f : Nat → Res Frm} : ¬ tgF t d ρ = .alt f := by
  intro h
  cases t with
  | nm i => cases h
  | tp is =>
    cases d <;> try cases h
    have h : (if (by assumption : List D).length = is.length then Res.ok (setsF is (by assumption) ρ) else .bad) = .alt f := h
    split at h <;> cases h
theorem stI {α γ : Type} {G_0 H_0 Gp G H : Hp} {σ : L2.St} {Dn : Ends} {Rel : Hp → Hp → Hp → γ → α → Prop} {r : Res α} {k : α → Res Fl} {R : γ → Hp → Prop} (p : PostS TS X W G_0 H_0 Gp Dn ((noX r).bind k))
    (next : ∀ v x G1 H1, Gr TS G H G1 H1 → Rel H G1 H1 v x → PostS TS X W G_0 H_0 Gp Dn (k x) → R v H1) : PostG Rel TS X W σ G H r R := by
  induction r with
  | ok x => exact fun v G1 H1 g r => next v x G1 H1 g r p
  | exc c fs => exact p.elim
  | bad => exact p
  | alt f ih => exact fun i => ih i (p i)
theorem bindI_ok {α : Type} {r : Res α} : r.bind Res.ok = r := by
  induction r with
  | alt f ih => exact congrArg Res.alt (funext ih)
  | _ => rfl
theorem for_core {J : It} {ds : List D} {G_0 H_0 G H G1 : Hp} {ρ : Frm} {σ : L2.St} {fp : Nat → List Addr} {Dn : Ends} (hb : DSs TS X body F) (tk : Takes X W)
    (wk : ∀ (G2 H2 : Hp), Ex G1 G2 → Ok0 TS G2 H2 → (∀ (i : Nat) (x : D), ds[i]? = some x → J.go i H2 ∧ ∀ v H', J.yld i H2 v H' → ∃ G', Gr TS G2 H2 G' H' ∧ Rp X.K G' v x) ∧ J.stop ds.length H2)
    (s : SI TS X.K G_0 H_0 ρ σ G H fp) (e1 : Ex G1 G) (p : PostS TS X W G_0 H_0 G Dn (forF t F ds ρ)) :
    ∃ Wd : Nat → Nat → L2.St → Hp → Prop, (∃ m, Wd 0 m σ H) ∧ ∀ i m σ H, Wd i m σ H →
      (J.stop i H ∧ Dn.nx σ H) ∨ (J.go i H ∧ ∃ N : L2.St → Hp → Prop, (∀ σ' H', N σ' H' → ∃ m', m' < m ∧ Wd (i + 1) m' σ' H') ∧ ∀ x H', J.yld i H x H' → gTg X.K t x σ H' fun σ2 H2 => wpSs X body { Dn with nx := N, ct := N, bk := Dn.nx } σ2 H2) := by
  refine ⟨fun i m σ H => m = ds.length - i ∧ i ≤ ds.length ∧ ∃ ρ G fp, SI TS X.K G_0 H_0 ρ σ G H fp ∧ Ex G1 G ∧ PostS TS X W G_0 H_0 G Dn (forF t F (ds.drop i) ρ), ⟨ds.length, by simp, Nat.zero_le _, ρ, G, fp, s, e1, by rw [List.drop_zero]; exact p⟩, ?_⟩
  rintro i m σ H ⟨rfl, hi, ρ, G, fp, s, e1, p⟩
  obtain ⟨w1, w2⟩ := wk G H e1 s.gr.ok
  by_cases hlt : i < ds.length
  · have hx : ds[i]? = some ds[i] := List.getElem?_eq_getElem hlt
    have hd : ds.drop i = ds[i] :: ds.drop (i + 1) := List.drop_eq_getElem_cons hlt
    rw [hd] at p
    obtain ⟨h1, h2⟩ := w1 i _ hx
    refine .inr ⟨h1, fun σ' H' => ∃ ρ' G' fp', SI TS X.K G_0 H_0 ρ' σ' G' H' fp' ∧ Ex G1 G' ∧ PostS TS X W G_0 H_0 G' Dn (forF t F (ds.drop (i + 1)) ρ'), fun σ' H' h => ⟨ds.length - (i + 1), by omega, rfl, hlt, h⟩, fun v H' y => ?_⟩
    obtain ⟨G', g, r⟩ := h2 v H' y
    have p : PostS TS X W G_0 H_0 G Dn ((tgF t ds[i] ρ).bind fun ρ1 => (F ρ1).bind fun fl => match fl with
      | .next ρ2 => forF t F (ds.drop (i + 1)) ρ2
      | .cont ρ2 => forF t F (ds.drop (i + 1)) ρ2
      | .brk ρ2 => .ok (.next ρ2)
      | .ret r => .ok (.ret r)) := p
    cases ht : tgF t ds[i] ρ with
    | alt f => exact (tgF_alt ht).elim
    | ok ρ1 =>
      rw [ht] at p
      refine gTgF_ok r (s.grow g) ht fun σ2 s2 => ?_
      refine hb W ρ1 σ2 G_0 H_0 G' H' fp _ tk s2 ?_
      have p : PostS TS X W G_0 H_0 G Dn ((F ρ1).bind fun fl => match fl with
        | .next ρ2 => forF t F (ds.drop (i + 1)) ρ2
        | .cont ρ2 => forF t F (ds.drop (i + 1)) ρ2
        | .brk ρ2 => .ok (.next ρ2)
        | .ret r => .ok (.ret r)) := p
      revert p
      generalize F ρ1 = r1
      intro p
      induction r1 with
      | ok fl =>
        cases fl with
        | next ρ2 => exact fun σ3 G3 H3 fp3 e3 s3 => ⟨ρ2, G3, fp3, s3, (e1.trans g.g).trans e3, p.shift (g.g.trans e3)⟩
        | cont ρ2 => exact fun σ3 G3 H3 fp3 e3 s3 => ⟨ρ2, G3, fp3, s3, (e1.trans g.g).trans e3, p.shift (g.g.trans e3)⟩
        | brk ρ2 => exact fun σ3 G3 H3 fp3 e3 s3 => p σ3 G3 H3 fp3 (g.g.trans e3) s3
        | ret r =>
          cases r with
          | val d => exact p
          | own ds => exact p
          | ownU dss => exact p
          | ownM xs d ys => exact p
      | exc c fs => exact p
      | bad => exact p.elim
      | alt f ih => exact fun i => ih i (p i)
    | exc c fs => exact (tgF_exc ht).elim
    | bad =>
      rw [ht] at p
      exact p.elim
  · have e : i = ds.length := by omega
    subst e
    rw [List.drop_length] at p
    exact .inl ⟨w2, p σ G H fp (Ex.refl G) s⟩
theorem ds_for (C : CtE X) (hp : PassesOwn (model X.prog X.w) X.A X.env X.xe) (hi : DI TS X tg iter fi) (hg : PG X tg (gTg X.K t)) (hb : DSs TS X body F) (hs : ∀ x, foldedSetIterable iter X.env x = pure x := by intro _; rfl) : DSt TS X (.For tg iter body [] pos) (sFor t fi F) := by
  refine ⟨?_⟩
  intro W ρ σ G_0 H_0 G H fp Dn tk s p
  refine wpSt_of (ps_for hp C.calm (pi_wp X tg iter) hg (pss_wp X body) hs) ?_
  have p : PostS TS X W G_0 H_0 G Dn ((evI fi ρ).bind fun ds => forF t F ds ρ) := p
  exact hi W (purE ρ) σ G H _ tk s.pure s.gr.ok (stI p fun J ds G1 H1 g wk p => for_core hb tk wk (s.grow g) (Ex.refl G1) (p.shift g.g))
structure FlatW (TS : TabList) (X : Cx) (tg iter : Expr) (fi : En → Res (List D)) : Prop where
  run : ∀ (W : WX) (ρ : En) (σ : L2.St) (G H : Hp) (R : It → Hp → Prop), Takes X W → RpE TS X.K G H ρ σ → Ok0 TS G H → PostG (fun _ _ _ (J : It) ds => ∀ G, Walker TS X.K J ds G) TS X W σ G H (fi ρ) R → wpIt X tg iter σ H R
instance {TS : TabList} {X : Cx} {tg iter : Expr} {fi : En → Res (List D)} : CoeFun (FlatW TS X tg iter fi) fun _ => ∀ (W : WX) (ρ : En) (σ : L2.St) (G H : Hp) (R : It → Hp → Prop), Takes X W → RpE TS X.K G H ρ σ → Ok0 TS G H → PostG (fun _ _ _ (J : It) ds => ∀ G, Walker TS X.K J ds G) TS X W σ G H (fi ρ) R → wpIt X tg iter σ H R := ⟨FlatW.run⟩
theorem ds_forR (C : CtE X) (hp : PassesOwn (model X.prog X.w) X.A X.env X.xe) (hi : FlatW TS X tg iter fi) (hg : PG X tg (gTg X.K t)) (hb : DSs TS X body F) (hs : ∀ x, foldedSetIterable iter X.env x = pure x := by intro _; rfl) : DSt TS X (.For tg iter body [] pos) (sForR t fi F) := by
  refine ⟨?_⟩
  intro W ρ σ G_0 H_0 G H fp Dn tk s p
  refine wpSt_of (ps_for hp C.calm (pi_wp X tg iter) hg (pss_wp X body) hs) ?_
  have p : PostS TS X W G_0 H_0 G Dn ((evR fi ρ).bind fun ds => forF t F ds ρ) := p
  unfold evR at p
  rw [bind_bind] at p
  refine hi W (frzE ρ) σ (noTb H) H _ tk s.frz (ok_noTb s.gr.ok) (stI p fun J ds G1 H1 g wk p => ?_)
  by_cases hf : ds.all flat0 = true
  · rw [if_pos hf] at p
    exact for_core hb tk (wk G) (s.grow (gr_noTb s.gr.ok g)) (Ex.refl G) p
  · rw [if_neg hf] at p
    exact p.elim
end
section
variable {TS : TabList} {X : Cx} {tg a b : Expr} {fa fb : En → Res D} {pos : Pos}
theorem back_FW {K : PySem.W.Frag} : Back (fun _ _ _ (J : It) (ds : List D) => ∀ G, Walker TS K J ds G) := fun _ _ _ _ _ _ _ h => h
theorem fw_range1 {p : Pos} (hg : Gl X "range") (hm : X.mg "range" = none) (ha : DE TS X a fa) (hs : starEach [a] X.env = [(false, eval a X.env)] := by rfl) : FlatW TS X tg (.Call (.Name "range" p) [a] [] pos) (iF r1D fa) := by
  refine ⟨?_⟩
  intro W ρ σ G H R tk re ok post
  refine wpIt_of (pi_range1 hg hm (pa_cons (pe_wp X a) pa_nil hs) hs) ?_
  refine bindP (wp := fun R => wpE X a σ H R) back_FW (fun Q' p => ha W ρ σ G H Q' tk re ok p) post fun v x G1 H1 _ g1 rx p => ?_
  unfold r1D at p
  split at p
  · cases rx
    split at p
    · rename_i h
      exact ⟨_, rfl, h.1, h.2, p _ G1 H1 (Gr.refl g1.ok) fun _ => walker_range⟩
    · exact p.elim
  · exact p.elim
end
def wipeE (ρ : En) : List Nat → En
  | [] => ρ
  | v :: vs => (wipeE ρ vs).set v none
def compF (t : Tg) (tt : En → Res Bool) (fe : En → Res D) (ρ : En) : List D → Res (List D)
  | [] => .ok []
  | d :: ds => (tgE t d ρ).bind fun ρ1 => (noX (tt ρ1)).bind fun b => if b then (noX (fe ρ1)).bind fun y => (compF t tt fe ρ ds).bind fun ys => .ok (y :: ys) else compF t tt fe ρ ds
def lComp (own : List Nat) (t : Tg) (fi : En → Res (List D)) (tt : En → Res Bool) (fe : En → Res D) : En → Res (List D) := fun ρ => (fi ρ).bind fun ds => okL ds.length (compF t tt fe (wipeE ρ own) ds)
def wpTs (X : Cx) (ifs : List Expr) : TT := fun σ H Q => ∀ (pins : List (Addr × Obj)) (s : Shared), Inv X pins σ H s → wpAny (model X.prog X.w) X.A (forIn ifs true fun c r => if r = true then do let ok ← isTrue c X.env (eval c X.env); pure (ForInStep.yield ok) else pure (ForInStep.yield r)) (TP X pins σ Q) X.xe s
theorem wpTs_of {X : Cx} {ifs : List Expr} {t : TT} {σ : L2.St} {H : Hp} {Q : Bool → Hp → Prop} (h : PTs X ifs t) (q : t σ H Q) : wpTs X ifs σ H Q := fun pins s I => h.run pins s σ H Q I q
structure DTs (TS : TabList) (X : Cx) (ifs : List Expr) (f : En → Res Bool) : Prop where
  run : ∀ (W : WX) (ρ : En) (σ : L2.St) (G H : Hp) (Q : Bool → Hp → Prop), Takes X W → RpE TS X.K G H ρ σ → Ok0 TS G H → PostG RelT TS X W σ G H (f ρ) Q → wpTs X ifs σ H Q
instance {TS : TabList} {X : Cx} {ifs : List Expr} {f : En → Res Bool} : CoeFun (DTs TS X ifs f) fun _ => ∀ (W : WX) (ρ : En) (σ : L2.St) (G H : Hp) (Q : Bool → Hp → Prop), Takes X W → RpE TS X.K G H ρ σ → Ok0 TS G H → PostG RelT TS X W σ G H (f ρ) Q → wpTs X ifs σ H Q := ⟨DTs.run⟩
def tYesR : En → Res Bool := fun _ => .ok true
theorem dts_nil {TS : TabList} {X : Cx} : DTs TS X [] tYesR := .mk fun W ρ σ G H Q tk re ok post => wpTs_of pts_nil (post true G H (Gr.refl ok) rfl)
theorem dts_one {TS : TabList} {X : Cx} {c : Expr} {ft : En → Res Bool} (h : DT TS X c ft) : DTs TS X [c] ft := .mk fun W ρ σ G H Q tk re ok post => wpTs_of (pts_one (pt_wp X c)) (h W ρ σ G H Q tk re ok post)
section
variable {TS : TabList} {X : Cx} {tg iter elt : Expr} {fi : En → Res (List D)} {tt : En → Res Bool} {fe : En → Res D} {ifs : List Expr} {pos : Pos} {t : Tg} {scope : Scope} {own : List (Str × Nat)}
theorem RpE.wipe {K : PySem.W.Frag} {G H : Hp} {ρ : En} {σ : L2.St} (h : RpE TS K G H ρ σ) : ∀ vs : List Nat, RpE TS K G H (wipeE ρ vs) (wipe σ vs)
  | [] => h
  | v :: vs => by
    have ih := h.wipe vs
    refine ⟨by show ((wipeE ρ vs).set v none).length ≤ ((L2.wipe σ vs).set v none).length; simpa using ih.len, fun i d e z => ?_, fun i ds e => ?_, fun i ds e => ?_, fun i c e => ?_⟩
    · rcases set_at e with ⟨_, e, _⟩ | ⟨ne, e⟩
      · cases e
      · obtain ⟨w, h1, h2⟩ := ih.at' i d e z
        refine ⟨w, ?_, h2⟩
        show ((L2.wipe σ vs).set v none)[i]? = _
        rw [List.getElem?_set_ne ne]
        exact h1
    · rcases set_at e with ⟨_, e, _⟩ | ⟨ne, e⟩
      · cases e
      · obtain ⟨a, ws, h1, h2⟩ := ih.lo i ds e
        refine ⟨a, ws, ?_, h2⟩
        show ((L2.wipe σ vs).set v none)[i]? = _
        rw [List.getElem?_set_ne ne]
        exact h1
    · rcases set_at e with ⟨_, e, _⟩ | ⟨ne, e⟩
      · cases e
      · obtain ⟨a, h1, h2⟩ := ih.st i ds e
        refine ⟨a, ?_, h2⟩
        show ((L2.wipe σ vs).set v none)[i]? = _
        rw [List.getElem?_set_ne ne]
        exact h1
    · rcases set_at e with ⟨_, e, _⟩ | ⟨ne, e⟩
      · cases e
      · obtain ⟨a, h1, h2⟩ := ih.ex i c e
        refine ⟨a, ?_, h2⟩
        show ((L2.wipe σ vs).set v none)[i]? = _
        rw [List.getElem?_set_ne ne]
        exact h1
theorem tgE_ok {d : D} {ρ : En} (P : Res En → Prop) (h1 : ∀ ρ1, tgE t d ρ = .ok ρ1 → P (.ok ρ1)) (h2 : P .bad) : P (tgE t d ρ) := by
  have h : (∃ ρ1, tgE t d ρ = .ok ρ1) ∨ tgE t d ρ = .bad := by
    cases t with
    | nm i => exact .inl ⟨_, rfl⟩
    | tp is =>
      cases d <;> first | exact .inr rfl | skip
      show (∃ ρ1, (if (by assumption : List D).length = is.length then Res.ok (setsE is (by assumption) ρ) else .bad) = .ok ρ1) ∨ (if (by assumption : List D).length = is.length then Res.ok (setsE is (by assumption) ρ) else .bad) = .bad
      split
      · exact .inl ⟨_, rfl⟩
      · exact .inr rfl
  rcases h with ⟨ρ1, h⟩ | h
  · rw [h]
    exact h1 ρ1 h
  · rw [h]
    exact h2
theorem noXP {X' : Cx} {W W' : WX} {σ σ' : L2.St} {α β γ δ : Type} {Ra : Hp → Hp → Hp → δ → α → Prop} {Rb : Hp → Hp → Hp → γ → β → Prop} {r : Res α} {k : α → Res β} {Q : γ → Hp → Prop} {R : δ → Hp → Prop} {G H G1 H1 : Hp} (post : PostG Rb TS X W σ G H ((noX r).bind k) Q)
    (next : ∀ v x G2 H2, Gr TS G1 H1 G2 H2 → Ra H1 G2 H2 v x → PostG Rb TS X W σ G H (k x) Q → R v H2) : PostG Ra TS X' W' σ' G1 H1 r R := by
  induction r with
  | ok x => exact fun v G2 H2 g rel => next v x G2 H2 g rel post
  | exc c fs => exact post.elim
  | bad => exact post
  | alt f ih => exact fun i => ih i (post i)
def blkT (X : Cx) (scope : Scope) (ifs : List Expr) : TT := fun σ H Q => ∀ (s : Shared) (H0 : Hp) (C : Addr) (cl : List (Str × Addr)) (fp : List Addr), wpTs (X.blk s H0 scope (compEnvC scope cl C X.env) fp) ifs σ H Q
def blkE (X : Cx) (scope : Scope) (elt : Expr) : TE := fun σ H Q => ∀ (s : Shared) (H0 : Hp) (C : Addr) (cl : List (Str × Addr)) (fp : List Addr), wpE (X.blk s H0 scope (compEnvC scope cl C X.env) fp) elt σ H Q
theorem comp_core {W : WX} {ρ : En} {σ : L2.St} {G H : Hp} {Q : VK} (hi : DI TS X tg iter fi) (ho : ∀ i ∈ t.all, i ∈ own.map (·.2))
    (ht : ∀ (s : Shared) (H : Hp) (C : Addr) (cl : List (Str × Addr)) (fp : List Addr), DTs TS (X.blk s H scope (compEnvC scope cl C X.env) fp) ifs tt)
    (he : ∀ (s : Shared) (H : Hp) (C : Addr) (cl : List (Str × Addr)) (fp : List Addr), DE TS (X.blk s H scope (compEnvC scope cl C X.env) fp) elt fe)
    (tk : Takes X W) (re : RpE TS X.K G H ρ σ) (ok : Ok0 TS G H) (post : PostG (RelL X.K) TS X W σ G H (lComp (own.map (·.2)) t fi tt fe ρ) Q) :
    tLc (wpIt X tg iter) (gTg X.K t) (blkT X scope ifs) (blkE X scope elt) (own.map (·.2)) σ H Q := by
  refine bindP (wp := fun R => wpIt X tg iter σ H R) back_L (fun Q' p => hi W ρ σ G H Q' tk re ok p) post fun J ds G1 H1 _ g1 wk p => ?_
  obtain ⟨hlim, p⟩ := okL_post p
  intro Dl hD
  have reW : ∀ {G' H' : Hp}, Gr TS G1 H1 G' H' → RpE TS X.K G' H' (wipeE ρ (own.map (·.2))) (wipe σ (own.map (·.2))) := fun e => ((re.mono g1).mono e).wipe _
  generalize hρ : wipeE ρ (own.map (·.2)) = ρ0 at p reW
  refine ⟨fun i m H => m = ds.length - i ∧ i ≤ ds.length ∧ ∃ Gi vs pre, Gr TS G1 H1 Gi H ∧ Gi Dl = none ∧ H Dl = some (.lst vs) ∧ Rps X.K Gi vs pre ∧ PostG (RelL X.K) TS X W σ G1 H1 ((compF t tt fe ρ0 (ds.drop i)).bind fun ys => .ok (pre ++ ys)) Q ∧ pre.length ≤ i,
    ⟨ds.length, by simp, Nat.zero_le _, G1, [], [], Gr.own g1.ok hD, fresh_back g1.ok.le hD, upd_same, .nil, by rw [List.drop_zero, show (fun ys : List D => Res.ok ([] ++ ys)) = Res.ok from rfl, bindI_ok]; exact p, Nat.le_refl _⟩, ?_⟩
  rintro i m H2 ⟨rfl, hi2, Gi, vs, pre, gi, gD, hDl, rv, hr, hlen⟩
  obtain ⟨w1, w2⟩ := wk Gi H2 gi.g gi.ok
  by_cases hlt : i < ds.length
  · have hx : ds[i]? = some ds[i] := List.getElem?_eq_getElem hlt
    have hd : ds.drop i = ds[i] :: ds.drop (i + 1) := List.drop_eq_getElem_cons hlt
    rw [hd] at hr
    obtain ⟨h1, h2⟩ := w1 i _ hx
    refine .inr ⟨h1, fun H' => ∃ Gi vs pre, Gr TS G1 H1 Gi H' ∧ Gi Dl = none ∧ H' Dl = some (.lst vs) ∧ Rps X.K Gi vs pre ∧ PostG (RelL X.K) TS X W σ G1 H1 ((compF t tt fe ρ0 (ds.drop (i + 1))).bind fun ys => .ok (pre ++ ys)) Q ∧ pre.length ≤ i + 1, fun H' h => ⟨ds.length - (i + 1), by omega, rfl, hlt, h⟩, fun v H' y => ?_⟩
    obtain ⟨G', g, r⟩ := h2 v H' y
    have hr : PostG (RelL X.K) TS X W σ G1 H1 (((tgE t ds[i] ρ0).bind fun ρ1 => (noX (tt ρ1)).bind fun b => if b then (noX (fe ρ1)).bind fun y => (compF t tt fe ρ0 (ds.drop (i + 1))).bind fun ys => .ok (y :: ys) else compF t tt fe ρ0 (ds.drop (i + 1))).bind fun ys => .ok (pre ++ ys)) Q := hr
    rw [bind_bind] at hr
    revert hr
    refine tgE_ok (fun z => PostG (RelL X.K) TS X W σ G1 H1 (z.bind _) Q → _) (fun ρ1 e1 hr => ?_) fun hr => hr.elim
    refine gTg_ok g.ok ho r (reW (gi.trans g)) e1 fun σ2 re2 hw => ?_
    rw [wipe_wipe] at hw
    refine ⟨hw, fun s' H0' C' cl' fp' => ?_⟩
    have hr : PostG (RelL X.K) TS X W σ G1 H1 (((noX (tt ρ1)).bind fun b => if b then (noX (fe ρ1)).bind fun y => (compF t tt fe ρ0 (ds.drop (i + 1))).bind fun ys => .ok (y :: ys) else compF t tt fe ρ0 (ds.drop (i + 1))).bind fun ys => .ok (pre ++ ys)) Q := hr
    rw [bind_bind] at hr
    refine ht s' H0' C' cl' fp' (fun _ _ _ _ => False) ρ1 σ2 G' H' _ takes0 re2 g.ok (noXP hr fun b' b G3 H3 g3 eb hr => ?_)
    subst eb
    have keep : ∀ {Ga Ha Gb Hb : Hp}, Gr TS Ga Ha Gb Hb → Ga Dl = none → Ha Dl = some (.lst vs) → Gb Dl = none ∧ Hb Dl = some (.lst vs) := fun {Ga Ha Gb Hb} gg z1 z2 => by
      refine ⟨?_, gg.h.at z2 rfl⟩
      cases q : Gb Dl with
      | none => rfl
      | some w =>
        rcases gg.nw Dl (by rw [q]; simp) with c | c
        · exact absurd z1 c
        · rw [z2] at c
          cases c
    obtain ⟨k1, k2⟩ := keep g gD hDl
    obtain ⟨k3, k4⟩ := keep g3 k1 k2
    cases b' with
    | false => exact iteF ⟨G3, vs, pre, (gi.trans g).trans g3, k3, k4, (rv.mono g.g).mono g3.g, hr, Nat.le_succ_of_le hlen⟩
    | true =>
      refine iteT fun s' H0' C' cl' fp' => ?_
      have hr : PostG (RelL X.K) TS X W σ G1 H1 (((noX (fe ρ1)).bind fun y => (compF t tt fe ρ0 (ds.drop (i + 1))).bind fun ys => .ok (y :: ys)).bind fun ys => .ok (pre ++ ys)) Q := hr
      rw [bind_bind] at hr
      refine he s' H0' C' cl' fp' (fun _ _ _ _ => False) ρ1 σ2 G3 H3 _ takes0 (re2.mono g3) g3.ok (noXP hr fun yv yd G4 H4 g4 ry hr => ?_)
      obtain ⟨k5, k6⟩ := keep g4 k3 k4
      rw [bind_bind] at hr
      refine ⟨vs, k6, ?_, G4, vs ++ [yv], pre ++ [yd], ?_, k5, upd_same, (((rv.mono g.g).mono g3.g).mono g4.g).app (.cons ry .nil), ?_, by rw [List.length_append]; exact Nat.succ_le_succ hlen⟩
      · rw [rv.len]
        refine Nat.lt_of_le_of_lt (Nat.le_trans hlen (Nat.le_trans hi2 hlim)) (by decide)
      · have gg := ((gi.trans g).trans g3).trans g4
        refine ⟨gg.g, ⟨fun b w hb n => ?_, fun b hb => gg.h.old b (upd_none hb), fun P t => (gg.h.tb P t).upd k6 rfl⟩, gg.nw, ⟨fun b w hb => ?_, gg.ok.tb.upd k6 rfl, gg.ok.nt⟩⟩
        · rw [upd_ne (ne_of_none hb hD)]
          exact gg.h.same b w hb n
        · rw [upd_ne (ne_of_none hb k5)]
          exact gg.ok.le b w hb
      · have e : (fun ys : List D => (Res.ok (yd :: ys)).bind fun ys => Res.ok (pre ++ ys)) = fun ys => Res.ok ((pre ++ [yd]) ++ ys) := funext fun ys => by
          rw [List.append_assoc]
          rfl
        rw [← e]
        exact hr
  · have e : i = ds.length := by omega
    subst e
    rw [List.drop_length] at hr
    have hr : PostG (RelL X.K) TS X W σ G1 H1 (.ok (pre ++ [])) Q := hr
    rw [List.append_nil] at hr
    exact .inl ⟨w2, hr _ Gi H2 gi ⟨Dl, vs, rfl, hD, gD, hDl, rv⟩⟩
theorem dl_comp (C : CtE X) (hi : DI TS X tg iter fi) (ok : BlkOk X.N X.env.scope scope own) (ho : ∀ i ∈ t.all, i ∈ own.map (·.2))
    (hg : ∀ (s : Shared) (H : Hp) (C : Addr) (cl : List (Str × Addr)) (fp : List Addr), PG (X.blk s H scope (compEnvC scope cl C X.env) fp) tg (gTg X.K t))
    (ht : ∀ (s : Shared) (H : Hp) (C : Addr) (cl : List (Str × Addr)) (fp : List Addr), DTs TS (X.blk s H scope (compEnvC scope cl C X.env) fp) ifs tt)
    (he : ∀ (s : Shared) (H : Hp) (C : Addr) (cl : List (Str × Addr)) (fp : List Addr), DE TS (X.blk s H scope (compEnvC scope cl C X.env) fp) elt fe) (hs : ∀ x, foldedSetIterable iter X.env x = pure x := by intro _; rfl) :
    DL TS X (.ListComp elt [⟨tg, iter, ifs, 0⟩] scope pos) (lComp (own.map (·.2)) t fi tt fe) := by
  refine ⟨?_⟩
  intro W ρ σ G H Q tk re k post
  exact wpE_of (pe_lc C.calm C.nd (pi_wp X tg iter) ok hg (fun s H C cl fp => ⟨fun pins s1 σ H1 Q I h => h s H C cl fp pins s1 I⟩) (fun s H C cl fp => ⟨fun pins s1 σ H1 Q I h => h s H C cl fp pins s1 I⟩) hs) (comp_core (elt := elt) hi ho ht he tk re k post)
theorem ds_setLc (i : Nat) {y : Str} {py spos : Pos} (C : CtE X) (hi : DI TS X tg iter fi) (ok : BlkOk X.N X.env.scope scope own) (ho : ∀ i ∈ t.all, i ∈ own.map (·.2))
    (hg : ∀ (s : Shared) (H : Hp) (C : Addr) (cl : List (Str × Addr)) (fp : List Addr), PG (X.blk s H scope (compEnvC scope cl C X.env) fp) tg (gTg X.K t))
    (ht : ∀ (s : Shared) (H : Hp) (C : Addr) (cl : List (Str × Addr)) (fp : List Addr), DTs TS (X.blk s H scope (compEnvC scope cl C X.env) fp) ifs tt)
    (he : ∀ (s : Shared) (H : Hp) (C : Addr) (cl : List (Str × Addr)) (fp : List Addr), DE TS (X.blk s H scope (compEnvC scope cl C X.env) fp) elt fe)
    (hsw : swapsWith (.ListComp elt [⟨tg, iter, ifs, 0⟩] scope pos) (some (.Name y py)) spos.line X.env = pure true) (hy : X.N[i]? = some y := by rfl) (hyl : X.env.scope.names.lookup y = some .local := by rfl) (hs : ∀ x, foldedSetIterable iter X.env x = pure x := by intro _; rfl) :
    DSt TS X (.Assign [.Name y py] (.ListComp elt [⟨tg, iter, ifs, 0⟩] scope pos) spos) (sSetL i (lComp (own.map (·.2)) t fi tt fe)) := by
  refine ⟨?_⟩
  intro W ρ σ G_0 H_0 G H fp D tk s p
  refine wpSt_of (ps_setLc (tt := blkT X scope ifs) (te := blkE X scope elt) C.calm C.nd hy hyl hsw (pi_wp X tg iter) ok hg (fun s H C cl fp => ⟨fun pins s1 σ H1 Q I h => h s H C cl fp pins s1 I⟩) (fun s H C cl fp => ⟨fun pins s1 σ H1 Q I h => h s H C cl fp pins s1 I⟩) hs) ?_
  refine evL_gen (wp := fun σ H R => tLc (wpIt X tg iter) (gTg X.K t) (blkT X scope ifs) (blkE X scope elt) (own.map (·.2)) σ H R) (fun W ρ σ G H Q tk re k post => comp_core hi ho ht he tk re k post) tk s p fun v ds G1 H1 g r p => ?_
  obtain ⟨fp', s'⟩ := s.storeL (i := i) g r
  exact p _ G1 H1 fp' g.g s'
end
section
variable {TS : TabList} {X : Cx} {a b : Expr} {fa fb : En → Res D} {es : List Expr} {fr : En → Res (List D)} {pos : Pos}
theorem eqV_eqv {K : PySem.W.Frag} {G : Hp} {v u : V} {x y : D} (rx : Rp K G v x) (ry : Rp K G u y) (h1 : flat0 x = true) (h2 : flat0 y = true) : flatV v = true ∧ eqV v u = PyData.eqv x y := by
  cases rx <;> cases ry <;> simp [flat0] at h1 h2 <;> refine ⟨rfl, ?_⟩ <;> simp only [PyData.eqv, eqV] <;> first | rfl | (rw [Bool.eq_iff_iff]; simp) | skip
theorem inV_any {K : PySem.W.Frag} {G : Hp} {v : V} {x : D} (rx : Rp K G v x) (h1 : flat0 x = true) : ∀ {us : List V} {ds : List D}, Rps K G us ds → ds.all flat0 = true → us.all flatV = true ∧ inV v us = ds.any fun z => PyData.eqv z x
  | _, _, .nil, _ => ⟨rfl, rfl⟩
  | _, _, .cons r rs, h => by
    rw [List.all_cons, Bool.and_eq_true] at h
    obtain ⟨a1, a2⟩ := eqV_eqv r rx h.1 h1
    obtain ⟨b1, b2⟩ := inV_any rx h1 rs h.2
    refine ⟨by rw [List.all_cons, a1, b1]; rfl, ?_⟩
    show (eqV _ v || inV v _) = _
    rw [a2, b2, List.any_cons]
def rInTD (K : PySem.W.Frag) : R2 := fun x y H Q => ∃ d ds, Dp K H x d ∧ Dp K H y (.tuple ds) ∧ SeqAt.shaped d = true ∧ SeqAt.shaped (.tuple ds) = true ∧ Q (.bl (ds.any fun z => PyData.eqv z d)) H
def rNotInTD (K : PySem.W.Frag) : R2 := fun x y H Q => ∃ d ds, Dp K H x d ∧ Dp K H y (.tuple ds) ∧ SeqAt.shaped d = true ∧ SeqAt.shaped (.tuple ds) = true ∧ Q (.bl (!ds.any fun z => PyData.eqv z d)) H
theorem op_inTD (hu : X.A.units + 65 < cLine) : OpR X (compareOp .In) (rInTD X.K) := by
  intro pins s σ H x y v u Q I rx ry h
  obtain ⟨d, ds, hd, he, sd, se, q⟩ := h
  obtain ⟨as, r1⟩ := Dp.reads I d x v hd rx
  obtain ⟨bs, r2⟩ := Dp.reads I (.tuple ds) y u he ry
  exact SeqAt.in_tuple_reads r2 r1 (SeqAt.canLay_of_shaped se) (SeqAt.canLay_of_shaped sd) (room_in_shaped sd hu) ⟨.bl _, H, I, rfl, q⟩
theorem op_notInTD (hu : X.A.units + 65 < cLine) : OpR X (compareOp .NotIn) (rNotInTD X.K) := by
  intro pins s σ H x y v u Q I rx ry h
  obtain ⟨d, ds, hd, he, sd, se, q⟩ := h
  obtain ⟨as, r1⟩ := Dp.reads I d x v hd rx
  obtain ⟨bs, r2⟩ := Dp.reads I (.tuple ds) y u he ry
  exact SeqAt.notIn_tuple_reads r2 r1 (SeqAt.canLay_of_shaped se) (SeqAt.canLay_of_shaped sd) (room_in_shaped sd hu) ⟨.bl _, H, I, rfl, q⟩
theorem od_in (C : CtE X) : OpD TS X (compareOp .In) inD := by
  refine ⟨?_⟩
  intro W σ v u x y G H Q ok rx ry p
  cases y with
  | str w =>
    cases x with
    | str z =>
      have p : PostG (RelE X.K) TS X W σ G H (if z.length = 1 then .ok (.bool (decide (z.cps.getD 0 0 ∈ w.cps.toList))) else .bad) Q := p
      cases rx
      cases ry
      split at p
      · rename_i h
        refine wpO_of op_in_sign ⟨z.cps.getD 0 0, w, ?_, rfl, fin1 ok p (.bl _)⟩
        congr 1
        exact one_sign h
      · exact p.elim
    | _ => exact p.elim
  | list ds =>
    have p : PostG (RelE X.K) TS X W σ G H (if okd x && okd (.list ds) then .ok (.bool (ds.any fun z => PyData.eqv z x)) else .bad) Q := by
      cases x <;> exact p
    split at p
    · rename_i h
      rw [Bool.and_eq_true] at h
      exact wpO_of (op_inD (by have := C.un; omega)) ⟨x, ds, (rx.mono ok.le).okdp h.1, (ry.mono ok.le).okdp h.2, okd_shaped h.1, okd_shaped h.2, fin1 ok p (.bl _)⟩
    · exact p.elim
  | tuple ds =>
    have p : PostG (RelE X.K) TS X W σ G H (if flat0 x && ds.all flat0 then .ok (.bool (ds.any fun z => PyData.eqv z x)) else if okd x && okd (.tuple ds) then .ok (.bool (ds.any fun z => PyData.eqv z x)) else .bad) Q := by
      cases x <;> exact p
    split at p
    · rename_i h
      rw [Bool.and_eq_true] at h
      obtain ⟨q, xs, rfl, hq, r⟩ := ry.tup_inv
      obtain ⟨a1, a2⟩ := inV_any rx h.1 r h.2
      have a0 : flatV v = true := (eqV_eqv rx rx h.1 h.1).1
      refine wpO_of op_in_seq ⟨q, xs, rfl, .inr (ex_t ok.le hq), a0, a1, ?_⟩
      rw [a2]
      exact fin1 ok p (.bl _)
    · split at p
      · rename_i _ h
        rw [Bool.and_eq_true] at h
        exact wpO_of (op_inTD (by have := C.un; omega)) ⟨x, ds, (rx.mono ok.le).okdp h.1, (ry.mono ok.le).okdp h.2, okd_shaped h.1, okd_shaped h.2, fin1 ok p (.bl _)⟩
      · exact p.elim
  | _ => cases x <;> exact p.elim
end
end Pyr
set_option Elab.async false
set_option autoImplicit false
set_option linter.all false
set_option maxRecDepth 100000
set_option maxHeartbeats 1000000
namespace Pyr
open PySem PySem.Spec PyProof.Rows L2 Evl
def strsD : List D → Option (List Str)
  | [] => some []
  | .str x :: ds => (strsD ds).map (x :: ·)
  | _ => none
def joinS (a : Str) (ds : List D) : Res D := match strsD ds with
  | some ys => if (ys.map (·.length)).sum + ys.length * a.length ≤ LIM then .ok (.str (Txt.join a ys)) else .bad
  | none => .bad
def joinD (a : Str) : D → Res D
  | .list ds => joinS a ds
  | .tuple ds => joinS a ds
  | _ => .bad
def eJoin (fa fb : En → Res D) : En → Res D := fun ρ => (fa ρ).bind fun x => match x with
  | .str a => (fb ρ).bind (joinD a)
  | _ => .bad
def boolsD : List D → Option (List Bool)
  | [] => some []
  | .bool x :: ds => (boolsD ds).map (x :: ·)
  | _ => none
def anyD : D → Res D
  | .list ds => match boolsD ds with
    | some bs => .ok (.bool (bs.any id))
    | none => .bad
  | _ => .bad
def allD : D → Res D
  | .list ds => match boolsD ds with
    | some bs => .ok (.bool (bs.all id))
    | none => .bad
  | _ => .bad
section
variable {TS : TabList} {X : Cx} {a b : Expr} {fa fb : En → Res D} {es : List Expr} {fr : En → Res (List D)} {pos : Pos}
theorem strs_of {K : PySem.W.Frag} {G : Hp} : ∀ {vs : List V} {ds : List D} {ys : List Str}, Rps K G vs ds → strsD ds = some ys → vs = ys.map V.str
  | _, _, _, .nil, h => by cases h; rfl
  | _, _, _, .cons (d := d) r rs, h => by
    cases r <;> try cases h
    rename_i x
    have h : ((strsD _).map (x :: ·)) = some _ := h
    obtain ⟨zs, h1, rfl⟩ := Option.map_eq_some_iff.mp h
    rw [strs_of rs h1]
    rfl
theorem bools_of {K : PySem.W.Frag} {G : Hp} : ∀ {vs : List V} {ds : List D} {ys : List Bool}, Rps K G vs ds → boolsD ds = some ys → vs = ys.map V.bl
  | _, _, _, .nil, h => by cases h; rfl
  | _, _, _, .cons (d := d) r rs, h => by
    cases r <;> try cases h
    rename_i x
    have h : ((boolsD _).map (x :: ·)) = some _ := h
    obtain ⟨zs, h1, rfl⟩ := Option.map_eq_some_iff.mp h
    rw [bools_of rs h1]
    rfl
theorem join_line {n : Nat} (h : n ≤ LIM) : n ≤ 16777216 := Nat.le_trans h (by decide)
theorem de_join {apos : Pos} (ha : DE TS X a fa) (hb : DE TS X b fb) (hs : starEach [b] X.env = [(false, eval b X.env)] := by rfl) (hbase : attributeBase a "join" X.env (eval a X.env) = eval a X.env := by rfl) (hline : (apos.endLine == pos.line) = true := by rfl) :
    DE TS X (.Call (.Attribute a "join" apos) [b] [] pos) (eJoin fa fb) := by
  refine ⟨?_⟩
  intro W ρ σ G H Q tk re ok post
  refine wpE_of (pe_join (pe_wp X a) (pe_wp X b) hs hbase hline) ?_
  refine bindP (wp := fun R => wpE X a σ H R) back_E (fun Q' p => ha W ρ σ G H Q' tk re ok p) post fun v x G1 H1 _ g1 rx p => ?_
  cases rx with
  | str z =>
    refine ⟨⟨z, rfl⟩, ?_⟩
    refine bindP (wp := fun R => wpE X b σ H1 R) back_E (fun Q' q => hb W ρ σ G1 H1 Q' tk (re.mono g1) g1.ok q) p fun u y G2 H2 _ g2 ry p => ?_
    cases y with
    | list ds =>
      obtain ⟨q, xs, rfl, hq, r⟩ := ry.list_inv
      have p : PostG (RelE X.K) TS X W σ G2 H2 (match strsD ds with
        | some ys => if (ys.map (·.length)).sum + ys.length * z.length ≤ LIM then .ok (.str (Txt.join z ys)) else .bad
        | none => .bad) Q := p
      cases hs : strsD ds with
      | none => rw [hs] at p; exact p.elim
      | some ys =>
        rw [hs] at p
        have e := strs_of r hs
        subst e
        have p : PostG (RelE X.K) TS X W σ G2 H2 (if (ys.map (·.length)).sum + ys.length * z.length ≤ LIM then .ok (.str (Txt.join z ys)) else .bad) Q := p
        split at p
        · rename_i hl
          exact ⟨z, q, ys, rfl, rfl, .inl (ex_l g2.ok.le hq), join_line hl, fin1 g2.ok p (.str _)⟩
        · exact p.elim
    | tuple ds =>
      obtain ⟨q, xs, rfl, hq, r⟩ := ry.tup_inv
      have p : PostG (RelE X.K) TS X W σ G2 H2 (match strsD ds with
        | some ys => if (ys.map (·.length)).sum + ys.length * z.length ≤ LIM then .ok (.str (Txt.join z ys)) else .bad
        | none => .bad) Q := p
      cases hs : strsD ds with
      | none => rw [hs] at p; exact p.elim
      | some ys =>
        rw [hs] at p
        have e := strs_of r hs
        subst e
        have p : PostG (RelE X.K) TS X W σ G2 H2 (if (ys.map (·.length)).sum + ys.length * z.length ≤ LIM then .ok (.str (Txt.join z ys)) else .bad) Q := p
        split at p
        · rename_i hl
          exact ⟨z, q, ys, rfl, rfl, .inr (ex_t g2.ok.le hq), join_line hl, fin1 g2.ok p (.str _)⟩
        · exact p.elim
    | _ => exact p.elim
  | _ => exact p.elim
theorem cd_any (C : CtE X) : CallD TS X (.builtin "any") (oneD anyD) := by
  refine ⟨?_⟩
  intro W σ vs ds G H Q ok rs p
  unfold oneD at p
  split at p
  · obtain ⟨v, rfl, r⟩ := rs.one_inv
    unfold anyD at p
    split at p
    · obtain ⟨q, xs, rfl, hq, r⟩ := r.list_inv
      split at p
      · rename_i bs hb
        have e := bools_of r hb
        subst e
        exact wpC_of (cr_any C.calm) ⟨q, bs, rfl, ex_l ok.le hq, fin1 ok p (.bl _)⟩
      · exact p.elim
    · exact p.elim
  · exact p.elim
theorem cd_all (C : CtE X) : CallD TS X (.builtin "all") (oneD allD) := by
  refine ⟨?_⟩
  intro W σ vs ds G H Q ok rs p
  unfold oneD at p
  split at p
  · obtain ⟨v, rfl, r⟩ := rs.one_inv
    unfold allD at p
    split at p
    · obtain ⟨q, xs, rfl, hq, r⟩ := r.list_inv
      split at p
      · rename_i bs hb
        have e := bools_of r hb
        subst e
        exact wpC_of (cr_all C.calm) ⟨q, bs, rfl, ex_l ok.le hq, fin1 ok p (.bl _)⟩
      · exact p.elim
    · exact p.elim
  · exact p.elim
theorem od_notIn (C : CtE X) : OpD TS X (compareOp .NotIn) notInD := by
  refine ⟨?_⟩
  intro W σ v u x y G H Q ok rx ry p
  cases y with
  | str w =>
    cases x with
    | str z =>
      have p : PostG (RelE X.K) TS X W σ G H ((if z.length = 1 then Res.ok (PyData.bool (decide (z.cps.getD 0 0 ∈ w.cps.toList))) else .bad).bind fun b => match b with
        | .bool b => .ok (.bool (!b))
        | _ => .bad) Q := p
      cases rx
      cases ry
      split at p
      · rename_i h
        refine wpO_of op_notIn_sign ⟨z.cps.getD 0 0, w, ?_, rfl, ?_⟩
        · congr 1
          exact one_sign h
        · exact fin1 ok p (.bl _)
      · exact p.elim
    | _ => exact p.elim
  | list ds =>
    have p : PostG (RelE X.K) TS X W σ G H ((if okd x && okd (.list ds) then Res.ok (PyData.bool (ds.any fun z => PyData.eqv z x)) else .bad).bind fun b => match b with
        | .bool b => .ok (.bool (!b))
        | _ => .bad) Q := by
      cases x <;> exact p
    split at p
    · rename_i h
      rw [Bool.and_eq_true] at h
      exact wpO_of (op_notInD (by have := C.un; omega)) ⟨x, ds, (rx.mono ok.le).okdp h.1, (ry.mono ok.le).okdp h.2, okd_shaped h.1, okd_shaped h.2, fin1 ok p (.bl _)⟩
    · exact p.elim
  | tuple ds =>
    have p : PostG (RelE X.K) TS X W σ G H ((if flat0 x && ds.all flat0 then Res.ok (PyData.bool (ds.any fun z => PyData.eqv z x)) else if okd x && okd (.tuple ds) then Res.ok (PyData.bool (ds.any fun z => PyData.eqv z x)) else .bad).bind fun b => match b with
        | .bool b => .ok (.bool (!b))
        | _ => .bad) Q := by
      cases x <;> exact p
    split at p
    · rename_i h
      rw [Bool.and_eq_true] at h
      obtain ⟨q, xs, rfl, hq, r⟩ := ry.tup_inv
      obtain ⟨a1, a2⟩ := inV_any rx h.1 r h.2
      have a0 : flatV v = true := (eqV_eqv rx rx h.1 h.1).1
      refine wpO_of op_notIn_seq ⟨q, xs, rfl, .inr (ex_t ok.le hq), a0, a1, ?_⟩
      have e : (if true = true then !inV v xs else inV v xs) = !(ds.any fun z => PyData.eqv z x) := by rw [if_pos rfl, a2]
      rw [e]
      exact fin1 ok p (.bl _)
    · split at p
      · rename_i _ h
        rw [Bool.and_eq_true] at h
        exact wpO_of (op_notInTD (by have := C.un; omega)) ⟨x, ds, (rx.mono ok.le).okdp h.1, (ry.mono ok.le).okdp h.2, okd_shaped h.1, okd_shaped h.2, fin1 ok p (.bl _)⟩
      · exact p.elim
  | _ => cases x <;> exact p.elim
end
end Pyr
set_option Elab.async false
set_option autoImplicit false
set_option linter.all false
set_option maxRecDepth 100000
set_option maxHeartbeats 1000000
namespace Pyr
open PySem PySem.Spec PyProof.Rows L2 Evl
theorem CtE.blk {X : Cx} {s : Shared} {H : Hp} {scope : Scope} {cenv : Env} {fp : List Addr} (C : CtE X) : CtE (X.blk s H scope cenv fp) := ⟨C.calm, C.nd, C.un⟩
theorem bt_len : bootBuiltins "len" = some (.builtin "len") := by decide +kernel
theorem bt_any : bootBuiltins "any" = some (.builtin "any") := by decide +kernel
theorem bt_all : bootBuiltins "all" = some (.builtin "all") := by decide +kernel
theorem bt_sorted : bootBuiltins "sorted" = some (.builtin "sorted") := by decide +kernel
theorem bt_int : bootBuiltins "int" = some (.type "int") := by decide +kernel
theorem bt_str : bootBuiltins "str" = some (.type "str") := by decide +kernel
theorem bt_list : bootBuiltins "list" = some (.type "list") := by decide +kernel
theorem bt_tuple : bootBuiltins "tuple" = some (.type "tuple") := by decide +kernel
def Dfn (K : PySem.W.Frag) (mg : Str → Option Value) (x : Str) (st : Stmt) (ps : List Str) : Prop := ∃ f fd, L2.Fun K x x st f fd ∧ mg x = some (.ref f) ∧ Binds K fd ps []
def DefIn (K : PySem.W.Frag) (x : Str) (st : Stmt) : Prop := ∃ (f : Addr) (oc : Value) (od an : Option Addr) (sl : Array (Option Value)) (kV doc pm cd ct : Value),
  PySem.W.nsIn K mainGlobals x = some (some (.ref f)) ∧ K.lookup f = some ⟨oc, od, .func (PySem.W.fnOf x x (defArgs st) (defBody st) (defScope st) .none kV doc pm an cd ct), sl⟩ ∧ PySem.W.codeIn K cd x = true ∧ PySem.W.keepIn K (.ref f) = true
def BindOk (x : Str) (st : Stmt) (ps : List Str) : Prop := ∀ (kV doc pm : Value) (an : Option Addr) (cdv ct : Value) (us : List Value), us.length = ps.length → bindArgs (PySem.W.fnOf x x (defArgs st) (defBody st) (defScope st) .none kV doc pm an cdv ct) ⟨us, []⟩ = pure (ps.zip us)
section
variable {K : PySem.W.Frag} {mg : Str → Option Value} {h : Heap} {x : Str} {st : Stmt} {ps : List Str}
theorem DefIn.dfn (d : DefIn K x st) (X : K.In h) (G : h.Ns mainGlobals mg) (b : BindOk x st ps) : Dfn K mg x st ps := by
  obtain ⟨f, oc, od, an, sl, kV, doc, pm, cd, ct, h1, h2, h3, h4⟩ := d
  have F := fun_mk h2 h3 h4
  exact ⟨f, _, F, PySem.W.mg_of X G h1, F.binds b⟩
end
theorem fnok_mk {TS : TabList} {P : Program} {w : World} {K : PySem.W.Frag} {mg : Str → Option Value} {base : Heap} {x qual : Str} {st : Stmt} {f : Addr} {fd : FuncData} {N ps : List Str} {k : Nat} {F : Frm → Res Fl} (Fn : L2.Fun K x qual st f fd) (S : FnScope N ps (defScope st))
    (body : ∀ (cdv : Value) (A : Around) (outer : List Env) (s : Shared) (H : Hp) (E : XK), Room k (A.deeper (envOfC qual (defScope st) s.heap.objs.size f cdv)) → DSs TS (cxOf (L2N.CX P w) P w K mg base N qual (defScope st) f cdv A outer s H E) (defBody st) F) :
    FnOk P w K mg base (L2N.CX P w) (k + 1) f fd ps (spD TS K mg (defM ps.length N.length F)) := by
  refine fun_ok Fn S (fun vs H Q E h => ?_) (fun cdv A outer s H vs Q E hr h => ?_)
  · obtain ⟨G, ds, r, ok, p⟩ := h
    unfold defM at p
    split at p
    · rename_i e
      rw [r.len, e]
    · exact p.elim
  · obtain ⟨G, ds, r, ok, p⟩ := h
    unfold defM at p
    split at p
    · refine ⟨_, pss_wp _ _, body cdv A outer s H E hr (fun cls d _ H => E cls d H) (frm0 N.length ds) (L2.start N vs) G H G H (fun _ => []) _ (takes_of rfl rfl rfl rfl) (SI.start ok r) ?_⟩
      revert p
      generalize F (frm0 N.length ds) = r
      intro p
      induction r with
      | ok fl =>
        cases fl with
        | next ρ => exact fun σ' G' H' fp' _ s' => p .non G' H' s'.gr .non
        | ret rv =>
          cases rv with
          | val d => exact p
          | own ds => exact p
          | ownU dss => exact p
          | ownM xs d ys => exact p
        | brk ρ => exact p.elim
        | cont ρ => exact p.elim
      | exc c fs => exact fun C d _ G' H' m g r => p C d G' H' m g r
      | bad => exact p.elim
      | alt f ih => exact fun i => ih i (p i)
    · exact p.elim
theorem known_of {TS : TabList} {P : Program} {w : World} {K : PySem.W.Frag} {mg : Str → Option Value} {base : Heap} {x : Str} {st : Stmt} {N ps : List Str} {k : Nat} {F : Frm → Res Fl} (d : Dfn K mg x st ps) (S : FnScope N ps (defScope st))
    (body : ∀ (f : Addr) (cdv : Value) (A : Around) (outer : List Env) (s : Shared) (H : Hp) (E : XK), Room k (A.deeper (envOfC x (defScope st) s.heap.objs.size f cdv)) → DSs TS (cxOf (L2N.CX P w) P w K mg base N x (defScope st) f cdv A outer s H E) (defBody st) F) :
    Known TS P w K mg base (k + 1) x ps (defM ps.length N.length F) := by
  obtain ⟨f, fd, F1, hm, hb⟩ := d
  exact ⟨f, fd, fnok_mk F1 S (body f), hm, F1.kp, hb⟩
def scriptD (ns : List Int) : D := .list (ns.map .int)
theorem rps_ints {K : PySem.W.Frag} {G : Hp} : ∀ ns : List Int, Rps K G (ns.map V.int) (ns.map .int)
  | [] => .nil
  | n :: ns => .cons (.int n) (rps_ints ns)
def Res.All {α : Type} (R : α → Prop) : Res α → Prop
  | .ok a => R a
  | .alt f => ∀ i, (f i).All R
  | _ => False
end Pyr
set_option Elab.async false
set_option autoImplicit false
set_option linter.all false
set_option maxRecDepth 100000
set_option maxHeartbeats 1000000
namespace Pyr
open PySem PySem.Spec PyProof.Rows L2 Evl
end Pyr
set_option Elab.async false
set_option autoImplicit false
set_option linter.all false
set_option maxRecDepth 100000
set_option maxHeartbeats 1000000
namespace Pyr
open PySem PySem.Spec PyProof.Rows L2 Evl
theorem seq_ok {F1 F2 : Frm → Res Fl} {ρ ρ' : Frm} (h : F1 ρ = .ok (.next ρ')) : sSeq F1 F2 ρ = F2 ρ' := by unfold sSeq; rw [h]; rfl
theorem seq_ret {F1 F2 : Frm → Res Fl} {ρ : Frm} {r : RV} (h : F1 ρ = .ok (.ret r)) : sSeq F1 F2 ρ = .ok (.ret r) := by unfold sSeq; rw [h]; rfl
theorem bind_ok {α β : Type} {a : α} {k : α → Res β} : (Res.ok a).bind k = k a := rfl
theorem okL_ok {α : Type} {n : Nat} {r : Res α} (h : n ≤ LIM) : okL n r = r := if_pos h
theorem evP_ok {fe : En → Res D} {ρ : Frm} {d : D} (h : fe (purE ρ) = .ok d) : evP fe ρ = .ok d := by unfold evP; rw [h]
theorem evL_ok {fe : En → Res (List D)} {ρ : Frm} {d : List D} (h : fe (purE ρ) = .ok d) : evL fe ρ = .ok d := by unfold evL; rw [h]
theorem evP_frz {fe : En → Res D} {ρ : Frm} {d : D} (h : fe (purE ρ) = .bad) (h2 : fe (frzE ρ) = .ok d) (hd : flat0 d = true) : evP fe ρ = .ok d := by unfold evP; rw [h, h2]; show (if flat0 d = true then Res.ok d else .bad) = _; rw [if_pos hd]
theorem evT_ok {ft : En → Res Bool} {ρ : Frm} {b : Bool} (h : ft (frzE ρ) = .ok b) : evT ft ρ = .ok b := by unfold evT; rw [h]; rfl
theorem set_ok {i : Nat} {fe : En → Res D} {ρ : Frm} {d : D} (h : fe (purE ρ) = .ok d) : sSet i fe ρ = .ok (.next (ρ.set i (.val d))) := by unfold sSet; rw [evP_ok h]; rfl
theorem setL_ok {i : Nat} {fe : En → Res (List D)} {ρ : Frm} {d : List D} (h : fe (purE ρ) = .ok d) : sSetL i fe ρ = .ok (.next (ρ.set i (.own (.lst d)))) := by unfold sSetL; rw [evL_ok h]; rfl
theorem if_ok {ft : En → Res Bool} {F1 F2 : Frm → Res Fl} {ρ : Frm} {b : Bool} (h : ft (frzE ρ) = .ok b) : sIf ft F1 F2 ρ = if b then F1 ρ else F2 ρ := by unfold sIf; rw [evT_ok h]; rfl
theorem ret_ok {fe : En → Res D} {ρ : Frm} {d : D} (h : fe (purE ρ) = .ok d) : sRet fe ρ = .ok (.ret (.val d)) := by unfold sRet; rw [evP_ok h]; rfl
theorem app_ok {i : Nat} {fe : En → Res D} {ρ : Frm} {ds : List D} {d : D} (h : ρ[i]? = some (Sl.own (.lst ds))) (he : fe (purE ρ) = .ok d) (hl : ds.length + 1 ≤ LIM) : sApp i fe ρ = .ok (.next (ρ.set i (.own (.lst (ds ++ [d]))))) := by unfold sApp; rw [h]; show (evP fe ρ).bind _ = _; rw [evP_ok he]; exact okL_ok hl
theorem for_ok {t : Tg} {fi : En → Res (List D)} {F : Frm → Res Fl} {ρ : Frm} {ds : List D} (h : fi (purE ρ) = .ok ds) : sFor t fi F ρ = forF t F ds ρ := by unfold sFor evI; rw [h]; rfl
theorem forR_ok {t : Tg} {fi : En → Res (List D)} {F : Frm → Res Fl} {ρ : Frm} {ds : List D} (h : fi (frzE ρ) = .ok ds) (hf : ds.all flat0 = true) : sForR t fi F ρ = forF t F ds ρ := by unfold sForR evR; rw [h]; show (if ds.all flat0 = true then Res.ok ds else .bad).bind _ = _; rw [if_pos hf]; rfl
theorem upto_flat : ∀ (n : Nat) (lo : Int), (upto lo n).all flat0 = true
  | 0, _ => rfl
  | n + 1, lo => upto_flat n (lo + 1)
theorem defM_eq {np n : Nat} {F : Frm → Res Fl} {ds : List D} (h : ds.length = np) : defM np n F ds = outR (F (frm0 n ds)) := if_pos h
theorem compF_map {t : Tg} {tt : En → Res Bool} {fe : En → Res D} {ρ : En} {g : D → D} : ∀ ds : List D, (∀ d ∈ ds, ∃ ρ1, tgE t d ρ = .ok ρ1 ∧ tt ρ1 = .ok true ∧ fe ρ1 = .ok (g d)) → compF t tt fe ρ ds = .ok (ds.map g)
  | [], _ => rfl
  | d :: ds, h => by
    obtain ⟨ρ1, h1, h2, h3⟩ := h d List.mem_cons_self
    show (tgE t d ρ).bind _ = _
    rw [h1]
    show (noX (tt ρ1)).bind _ = _
    rw [h2]
    show (noX (fe ρ1)).bind _ = _
    rw [h3]
    show (compF t tt fe ρ ds).bind _ = _
    rw [compF_map ds fun d hd => h d (List.mem_cons_of_mem _ hd)]
    rfl
theorem cut_front {α : Type} (xs : List α) (n : Nat) : cutG xs none (some (n : Int)) = xs.take n := by
  unfold cutG
  rw [HT.sIx_none, HT.sIx_nat, List.drop_zero, Nat.sub_zero]
  by_cases h : n ≤ xs.length
  · rw [Nat.min_eq_left h]
  · rw [Nat.min_eq_right (by omega), List.take_of_length_le (by omega), List.take_of_length_le (by omega)]
theorem eqv_str (a b : Str) : PyData.eqv (.str a) (.str b) = decide (a = b) := by
  simp only [PyData.eqv]
  rw [Bool.eq_iff_iff]
  simp
theorem eqv_int (a b : Int) : PyData.eqv (.int a) (.int b) = decide (a = b) := by
  simp only [PyData.eqv]
  rw [Bool.eq_iff_iff]
  simp
theorem eqD_str (a b : Str) : eqD (.str a) (.str b) = .ok (.bool (decide (a = b))) := by
  unfold eqD
  rw [eqv_str]
  rfl
theorem eqD_int (a b : Int) : eqD (.int a) (.int b) = .ok (.bool (decide (a = b))) := by
  unfold eqD
  rw [eqv_int]
  rfl
theorem neD_int (a b : Int) : neD (.int a) (.int b) = .ok (.bool (!decide (a = b))) := by
  unfold neD
  rw [eqv_int]
  rfl
theorem neD_str (a b : Str) : neD (.str a) (.str b) = .ok (.bool (!decide (a = b))) := by
  unfold neD
  rw [eqv_str]
  rfl
theorem r1D_nat {n : Nat} (h : n ≤ LIM) : r1D (.int n) = .ok (upto 0 n) := by
  have h : n ≤ 100000 := h
  have e : -(2 ^ 62) ≤ (n : Int) ∧ (n : Int) < 2 ^ 62 := by omega
  simp only [r1D, if_pos e, Int.toNat_natCast]
theorem at_str {x : Str} {k : Nat} {c : Nat} (h : x.cps.toList[k]? = some c) (hl : x.length ≤ LIM) : atD (.str x) (.int (k : Int)) = .ok (.str ⟨#[c]⟩) := by
  unfold atD
  simp only [okL_ok hl, atI_nat h]
theorem at_list {xs : List D} {k : Nat} {d : D} (h : xs[k]? = some d) : atD (.list xs) (.int (k : Int)) = .ok d := by
  unfold atD
  simp only [atI_nat h]
theorem at_tup {xs : List D} {k : Nat} {d : D} (h : xs[k]? = some d) : atD (.tuple xs) (.int (k : Int)) = .ok d := by
  unfold atD
  simp only [atI_nat h]
theorem forF_next {t : Tg} {F : Frm → Res Fl} {d : D} {ds : List D} {ρ ρ1 ρ2 : Frm} (h : tgF t d ρ = .ok ρ1) (hb : F ρ1 = .ok (.next ρ2)) : forF t F (d :: ds) ρ = forF t F ds ρ2 := by
  show (tgF t d ρ).bind _ = _
  rw [h]
  show (F ρ1).bind _ = _
  rw [hb]
  rfl
theorem forF_ret {t : Tg} {F : Frm → Res Fl} {d : D} {ds : List D} {ρ ρ1 : Frm} {r : RV} (h : tgF t d ρ = .ok ρ1) (hb : F ρ1 = .ok (.ret r)) : forF t F (d :: ds) ρ = .ok (.ret r) := by
  show (tgF t d ρ).bind _ = _
  rw [h]
  show (F ρ1).bind _ = _
  rw [hb]
  rfl
end Pyr
set_option Elab.async false
set_option autoImplicit false
set_option linter.all false
set_option maxRecDepth 100000
set_option maxHeartbeats 2000000
namespace Pyr
open PySem PySem.Spec PyProof.Rows L2 Evl
abbrev gxX (X : Cx) (A' : Around) (s : Shared) (H : Hp) (cenv : Env) (fp : List Addr) (pn : List (Addr × Obj)) : Cx :=
  { X with A := A', s_0 := s, H_0 := H, env := cenv, outer := X.stack, stack := cenv :: X.stack, ex := fp, fn := fun _ => false, pn := pn, xe := fun _ _ => False }
abbrev gxE (X : Cx) (scope : Scope) (cl : List (Str × Addr)) (C : Addr) (code : Value) : Env := genEnv scope cl C code builtinsNs X.env
theorem inv_gens {X : Cx} {pins : List (Addr × Obj)} {σ : L2.St} {H : Hp} {s : Shared} (I : Inv X pins σ H s) {s' : Shared} (hh : s'.heap = s.heap) (ho : s'.os = s.os) (hb : AllBare s'.gens) : Inv X pins σ H s' := by
  obtain ⟨h, g, d, t, o⟩ := s'
  have hh : h = s.heap := hh
  have ho : o = s.os := ho
  subst hh
  subst ho
  exact ⟨I.ok, I.os, hb, I.base, I.loc, I.cell, I.free, I.freeC, I.pin, I.hok, I.len⟩
structure Caught (scope : Scope) (old new : List (Str × Addr)) : Prop where
  old : ∀ y c, new.lookup y = some c → old.lookup y = some c
  has : ∀ y, scope.names.lookup y = some .free → ∃ c, new.lookup y = some c
section
variable {X : Cx} {pins : List (Addr × Obj)} {σ : L2.St} {H : Hp} {s : Shared} {scope : Scope} {own : List (Str × Nat)} {fp : List Addr}
theorem all_caught (I : Inv X pins σ H s) (ok : BlkOk X.N X.env.scope scope own) (y : Str × NameKind) (hy : y ∈ scope.names) (e : y.2 = .free) : ∃ c, X.env.cells.lookup y.1 = some c :=
  I.ok.has y.1 (ok.free y hy e)
theorem caught_of (I : Inv X pins σ H s) (ok : BlkOk X.N X.env.scope scope own) : Caught scope X.env.cells (cloFrom X.env.cells scope.names []) where
  old := fun y c e => (cloFrom_mem (PySem.mem_of_lookup e)).elim (fun z => nomatch z) fun ⟨m, e2⟩ => by
    obtain ⟨c', hc⟩ := all_caught I ok (y, .free) m rfl
    rw [e2, hc, Option.getD_some]
  has := fun y e => mem_lookup (cloFrom_has (acc := []) (PySem.mem_of_lookup e))
theorem free_of (ok : BlkOk X.N X.env.scope scope own) (hN : X.N.Nodup) {i : Nat} {y : Str} {v : V} (hi : X.N[i]? = some y) (hv : (wipe σ (own.map (·.2)))[i]? = some (some v)) (h : Vis scope y) : scope.names.lookup y = some .free := by
  have key : ∀ k, scope.names.lookup y = some k → k = .local ∨ k = .cell → False := fun k e hk => (ok.own (y, k) (PySem.mem_of_lookup e) hk).elim
    (fun m => by
      obtain ⟨q, q1, q2⟩ := List.mem_map.mp m
      have q3 : X.N[q.2]? = some y := (ok.ix q q1).trans (congrArg some q2)
      exact (wipe_some hv).2 (nodup_ix hN q3 hi ▸ List.mem_map_of_mem q1))
    fun m => m (List.mem_of_getElem? hi)
  exact h.elim (fun e => (key _ e (.inl rfl)).elim) fun h => h.elim (fun e => (key _ e (.inr rfl)).elim) id
theorem gx_ok {A' : Around} {cenv : Env} {pn : List (Addr × Obj)} (I : Inv X pins σ H s) (ok : BlkOk X.N X.env.scope scope own) (hcell : ∀ y ∈ scope.names, y.2 ≠ .cell) (hfp : ∀ b ∈ fp, FpOk X pins H b ∧ b < s.heap.objs.size) (hA : A'.handled = none) (hfr : A'.frames = some (cenv :: X.stack))
    (e1 : cenv.scope = scope) (e2 : cenv.globals = X.env.globals) (e3 : cenv.builtins = builtinsNs) (e4 : cenv.locals = s.heap.objs.size) (e5 : cenv.frame = some s.heap.objs.size) (ca : Caught scope X.env.cells cenv.cells) : (gxX X A' s H cenv fp pn).Ok where
  mod := I.ok.mod
  kind := (congrArg Scope.kind e1).trans ok.kind
  glob := e2.trans I.ok.glob
  blt := e3
  above := Nat.le_of_eq e4.symm
  inj := fun x y c h1 h2 => I.ok.inj x y c (ca.old x c h1) (ca.old y c h2)
  has := fun y h => by
    have h : scope.names.lookup y = some .cell ∨ scope.names.lookup y = some .free := by rw [← e1]; exact h
    exact h.elim (fun e => (hcell _ (PySem.mem_of_lookup e) rfl).elim) (ca.has y)
  cab := fun y c z => nomatch (show false = true from z)
  hd := fun _ => hA
  frames := hfr
  stk := .inr ⟨rfl, e5.trans (congrArg some e4.symm)⟩
  exf := fun b hb => ⟨fun z => Nat.lt_irrefl _ (e4 ▸ z ▸ (hfp b hb).2), fun y c e => (hfp b hb).1.2.2.2.2.1 y c (ca.old y c e)⟩
  bs := I.bs
  bsz := Nat.le_trans I.ok.bsz I.sz
  noex := fun b o e hb => ((hfp b hb).1.2.2.2.1).elim (I.ok.noex b o e) fun z => Nat.not_lt.mpr (Nat.le_trans I.ok.bsz z) (Heap.lt_size e)
  exfs := fun b hb z => (List.mem_cons.mp (I.stkSub b z)).elim (hfp b hb).1.2.1 (hfp b hb).1.2.2.1
  funs := I.stack
  frf := I.stkFree
theorem gx_start {A' : Around} {code it : Value} {h' : Heap} {gobj : Obj} {gens' : Array GenState} {tk : Nat} (I : Inv X pins σ H s) (ok : BlkOk X.N X.env.scope scope own) (hN : X.N.Nodup) (hcell : ∀ y ∈ scope.names, y.2 ≠ .cell)
    (hfp : ∀ b ∈ fp, FpOk X pins H b ∧ b < s.heap.objs.size) (hA : A'.handled = none) (hfr : A'.frames = some (gxE X scope (cloFrom X.env.cells scope.names []) s.heap.objs.size code :: X.stack)) (hgob : ∀ v, gobj.data ≠ .cell v) (hgf : gobj.isFreed = false)
    (hn' : h'.Ns s.heap.objs.size (fun y => if y = ".0" then some it else none)) (hs' : Heap.SameBut s.heap.objs.size (s.heap.push { cls := .type "frame", data := .dict #[] }) h') (hdot : (".0" : Str) ∉ X.N) (hgb : AllBare gens') :
    Inv (gxX X A' s H (gxE X scope (cloFrom X.env.cells scope.names []) s.heap.objs.size code) fp [(h'.objs.size, gobj)]) [] (wipe σ (own.map (·.2))) H { s with gens := gens', toks := tk, heap := h'.push gobj } := by
  have ca := caught_of I ok
  have hsz : h'.objs.size = s.heap.objs.size + 1 := hs'.1.trans (Heap.size_push ..)
  have old : ∀ b o, s.heap.get? b = some o → (h'.push gobj).get? b = some o := fun b o e => Heap.get?_push_of_some _ (hs'.extBut b o (Nat.ne_of_lt (Heap.lt_size e)) (Heap.get?_push_of_some _ e))
  exact {
    ok := gx_ok I ok hcell hfp hA hfr rfl rfl rfl rfl rfl ca
    os := rfl
    bare := hgb
    base := Un.kept old
    loc := ⟨_, hn'.push _, fun i y v hi hv hy => by
      have fr := free_of ok hN hi hv hy
      obtain ⟨m, _, see⟩ := I.loc
      have cf := ok.free _ (PySem.mem_of_lookup fr) rfl
      obtain ⟨u, ru, lk⟩ := see i y v hi (wipe_some hv).1 (.inr cf)
      obtain ⟨c, c1⟩ := ca.has y fr
      refine ⟨u, ru, .inr ⟨.inr fr, c, c1, ?_⟩⟩
      cases lk with
      | inl z => exact cf.elim (fun k => nomatch (show some NameKind.local = some .cell from z.1.symm.trans k)) fun k => nomatch (show some NameKind.local = some .free from z.1.symm.trans k)
      | inr z =>
        obtain ⟨_, c2, e2, cell⟩ := z
        have e3 : some c = some c2 := (ca.old y c c1).symm.trans e2
        cases e3
        exact cell.keeps old⟩
    cell := fun y c e => (I.cell y c (ca.old y c e)).imp fun _ z => z.keeps old
    free := I.hok.fresh (Nat.le_refl _)
    freeC := fun y c e => I.freeC y c (ca.old y c e)
    pin := fun p hp => by
      obtain rfl : p = (h'.objs.size, gobj) := by simpa using hp
      have le : s.heap.objs.size ≤ h'.objs.size := Nat.le.intro hsz.symm
      refine ⟨Heap.get?_push_size _ hgf, I.hok.fresh le, fun z => Nat.succ_ne_self s.heap.objs.size (hsz.symm.trans z), fun z => ?_, hgob⟩
      exact (List.mem_cons.mp (I.stkSub _ z)).elim (fun e => Nat.not_lt.mpr le (Nat.lt_of_le_of_lt (Nat.le_of_eq e) I.lt)) (I.nofs le)
    hok := I.hok.kept old
    len := (L2.wipe_length σ _).trans I.len }
end
structure Grown (P : Addr) (H H' : Hp) (code : Value) : Prop where
  keep : ∀ a u, a ≠ P → H a = some u → H' a = some u
  tb : ∀ Q, TblOk H Q → TblOk H' Q
  code : ∃ c' P' o, code = .ref c' ∧ H' c' = some (codeO o c' P') ∧ TblOk H' P'
def tGx (P : Addr) (cd : Hp → Prop) (isAll : Bool) (wi : TI) (g : TG) (tt : Value → TT) (te : Value → TE) (vs : List Nat) : TE := fun σ H Q => wi σ H fun J H1 => (TblOk H1 P ∧ cd H1) ∧ ∀ code H1', Grown P H1 H1' code → ∃ W : Nat → Nat → Hp → Prop, (∃ m, W 0 m H1') ∧ ∀ i m H, W i m H →
  (J.stop i H ∧ Q (.bl isAll) H) ∨ (J.go i H ∧ ∃ Nx : Hp → Prop, (∀ H', Nx H' → ∃ m', m' < m ∧ W (i + 1) m' H') ∧ ∀ x H', J.yld i H x H' → g x (wipe σ vs) H' fun σ2 H2 => wipe σ2 vs = wipe σ vs ∧ tt code σ2 H2 fun b H3 =>
    if b = true then te code σ2 H3 fun y H4 => ∃ c, y = .bl c ∧ (if c = isAll then Nx H4 else Q (.bl c) H4) else Nx H3)
def gxY (Y : Cx) (isAll : Bool) (Q : VK) : Protocol := fun n s₀ v s kap => ∃ (c : Bool) (σ : L2.St) (H : Hp) (pl : List (Addr × Obj)), v = .bool c ∧ Inv Y pl σ H s ∧ if c = isAll then ∀ s', s'.heap = s.heap → s'.os = s.os → AllBare s'.gens → kap (.send .none) s' else Q (.bl c) H
def gxR (Y : Cx) (isAll : Bool) (Q : VK) : GenEnd := fun n s₀ r s => r = .ok .next ∧ ∃ (σ : L2.St) (H : Hp) (pl : List (Addr × Obj)), Inv Y pl σ H s ∧ Q (.bl isAll) H
section
variable {Y : Cx} {B : Around} {elt tg iter : Expr} {ifs : List Expr} {scope : Scope} {pos : Pos} {it : Addr} {fp : List Addr} {tn : Nat → Heap → Prop} {J : It} {g : TG} {tt : TT} {te : TE} {vs : List Nat} {σ : L2.St} {Q : VK} {isAll : Bool} {W : Nat → Nat → Hp → Prop}
theorem pin_stay {b : Addr} {o : Obj} {h : Heap} {σ' : L2.St} {H' : Hp} {s' : Shared} (I : Inv Y ([] ++ pinsAt fp h) σ' H' s') (hb : b ∈ fp) (e : h.get? b = some o) : s'.heap.get? b = some o ∧ H' b = none :=
  (I.pin (b, o) (List.mem_append.mpr (.inr (List.mem_append.mpr (.inr (mem_pinsAt hb e)))))).imp id And.left
theorem gx_loop (hc : Y.calm = true) (hYA : Y.A = B.over (.compLoop (.GeneratorExp elt [⟨tg, iter, ifs, 0⟩] scope pos) 0 (.ref it) .none Y.env) []) (hex : Y.ex = fp) (hxe : Y.xe = fun _ _ => False) (hco : Y.env.scope.isCoroutine = false) (hpn : ∀ p ∈ Y.pn, p.1 ∉ fp)
    (T : Turn Y.prog Y.w Y.K tg J fp it tn) (hg : PG Y tg g) (ht : PTs Y ifs tt) (he : PE Y elt te)
    (turn : ∀ i m H, W i m H → (J.stop i H ∧ Q (.bl isAll) H) ∨ (J.go i H ∧ ∃ Nx : Hp → Prop, (∀ H', Nx H' → ∃ m', m' < m ∧ W (i + 1) m' H') ∧ ∀ x H', J.yld i H x H' → g x (wipe σ vs) H' fun σ2 H2 => wipe σ2 vs = wipe σ vs ∧ tt σ2 H2 fun b H3 =>
      if b = true then te σ2 H3 fun y H4 => ∃ c, y = .bl c ∧ (if c = isAll then Nx H4 else Q (.bl c) H4) else Nx H3)) :
    ∀ (m n : Nat) (i : Nat) (H : Hp) (s₀ s : Shared), m < n → Inv Y [] (wipe σ vs) H s → tn i s.heap → (∀ b ∈ fp, H b = none) → W i m H →
      Seg (model Y.prog Y.w) B (gxR Y isAll Q) (gxY Y isAll Q) n s₀ (.compLoop (.GeneratorExp elt [⟨tg, iter, ifs, 0⟩] scope pos) 0 (.ref it) .none Y.env)
        ((model Y.prog Y.w).den (.compLoop (.GeneratorExp elt [⟨tg, iter, ifs, 0⟩] scope pos) 0 (.ref it) .none Y.env)) [] s := by
  have stat : ∀ {σ' : L2.St} {H' : Hp} {s' : Shared}, Inv Y [] σ' H' s' → (∀ b ∈ fp, H' b = none) → ∀ b ∈ fp, FpOk Y [] H' b := fun {σ' H' s'} I' hn b hb =>
    have hb' : b ∈ Y.ex := by rw [hex]; exact hb
    ⟨hn b hb, (I'.ok.exf b hb').1, I'.ok.exfs b hb', .inl hb', fun x c e => (I'.ok.exf b hb').2 x c e, fun p hp z => by
      rw [List.append_nil] at hp
      exact hpn p hp (by rw [z]; exact hb)⟩
  have noX : ∀ {α : Type} {t : Sem α} {Q' : α → Shared → Prop} {s' : Shared}, wpAny (model Y.prog Y.w) Y.A t Q' Y.xe s' → wpAny (model Y.prog Y.w) Y.A t Q' (fun _ _ => False) s' := fun h => by
    rw [hxe] at h
    exact h
  intro m
  induction m using Nat.strongRecOn with
  | ind m ih =>
    intro n i H s₀ s hmn I st hn w
    show Seg _ B _ _ _ s₀ _ ((compTurn (.GeneratorExp elt [⟨tg, iter, ifs, 0⟩] scope pos) 0 (.ref it) .none Y.env).onRaise (leaving Y.env)) [] s
    rw [compTurn_gen, Sem.onRaise_eq_wrap]
    refine seg_bind_wrap (wpAny_standAt ?_)
    rcases turn i m H w with ⟨stop, qq⟩ | ⟨go, Nx, hNx, step⟩
    · refine seg_bind_wrap ?_
      rw [← hYA]
      refine thnF (T.done Y rfl rfl rfl hc i [] s _ H (fun _ _ => False) I (stat I hn) st stop) fun r s1 ⟨hr, I1⟩ => ?_
      subst hr
      exact seg_end (.ok .next) ⟨rfl, _, _, _, I1, qq⟩
    · refine seg_bind_wrap ?_
      rw [← hYA]
      refine thnF (T.item Y rfl rfl rfl hc i [] s _ H (fun _ _ => False) I (stat I hn) st go) fun r s1 ⟨u, hr, h1⟩ => ?_
      subst hr
      refine seg_bind_wrap ?_
      rw [← hYA]
      refine thnF h1 fun _ s2 ⟨x, H2, I2, r2, y2, st2, n2⟩ => ?_
      have I2' := I2.pinned (stat I2 n2) (T.obj _ _ st2)
      refine seg_bind_wrap ?_
      rw [← hYA]
      refine thnF (noX (hg.run _ s2 _ H2 x u _ I2' r2 (step x H2 y2))) fun _ s3 ⟨σ3, H3, I3, hw3, q3⟩ => ?_
      refine seg_bind_wrap ?_
      rw [← hYA]
      refine thnF (noX (ht.run _ s3 σ3 H3 _ I3 q3)) fun b s4 ⟨H4, I4, q4⟩ => ?_
      have fin : ∀ {n' : Nat} {s₁ s' : Shared} {H' : Hp}, m ≤ n' → Inv Y ([] ++ pinsAt fp s2.heap) σ3 H' s' → Nx H' →
          Seg (model Y.prog Y.w) B (gxR Y isAll Q) (gxY Y isAll Q) n' s₁ (.compLoop (.GeneratorExp elt [⟨tg, iter, ifs, 0⟩] scope pos) 0 (.ref it) .none Y.env)
            ((model Y.prog Y.w).den (.compLoop (.GeneratorExp elt [⟨tg, iter, ifs, 0⟩] scope pos) 0 (.ref it) .none Y.env)) [] s' := fun {n' s₁ s' H'} hn' I' nx => by
        obtain ⟨mm, lt, w'⟩ := hNx H' nx
        have hl : (wipe σ vs).length = σ3.length := by rw [← hw3, L2.wipe_length]
        refine ih mm lt n' (i + 1) H' s₁ s' (by omega) ((I'.unpinned (pins := [])).weak hl (fun j v e => ?_)) (T.keep _ _ _ st2 fun b hb o e => (pin_stay I' hb e).1) (fun b hb => ?_) w'
        · rw [← hw3] at e
          exact (wipe_some e).1
        · obtain ⟨o, e, _⟩ := T.obj _ _ st2 b hb
          exact (pin_stay I' hb e).2
      cases b with
      | false =>
        simp only [Bool.false_eq_true, if_false] at q4 ⊢
        exact seg_again rfl (fin (by omega) I4 q4)
      | true =>
        simp only [if_true] at q4 ⊢
        have hy : ∀ v, yieldOut Y.env v = yieldValue v := fun v => by simp only [yieldOut, hco, Bool.false_eq_true, if_false]
        simp only [hy]
        rw [Sem.bind_eq_wrap', Sem.bind_eq_wrap', Sem.wrap_wrap, Sem.wrap_wrap]
        refine seg_wrap ?_
        rw [← hYA]
        refine thnF (noX (he.run _ s4 σ3 H4 _ I4 q4)) fun z s5 ⟨yv, H5, I5, r5, c, hyc, q5⟩ => ?_
        subst hyc
        cases r5
        obtain ⟨n', rfl⟩ : ∃ n', n = n' + 1 := ⟨n - 1, by omega⟩
        refine seg_at (seg_yield rfl rfl rfl ⟨c, σ3, H5, _, rfl, I5, ?_⟩)
        split at q5
        · rename_i hcA
          rw [if_pos hcA]
          intro s' hh ho hb
          exact seg_again rfl (fin (by omega) (inv_gens I5 hh ho hb) q5)
        · rename_i hcA
          rw [if_neg hcA]
          exact q5
end
end Pyr
set_option Elab.async false
set_option autoImplicit false
set_option linter.all false
set_option maxRecDepth 100000
set_option maxHeartbeats 2000000
namespace Pyr
open PySem PySem.Spec PyProof.Rows L2 Evl
theorem gx_drain_all {Y : Cx} {A1 : Around} {a : Addr} {g : Nat} {Q : VK} {R : Result → Shared → Prop} (hh : A1.handled = none) (hd : A1.depth < recursionLimit) (hY : ∀ (pl : List (Addr × Obj)) (σ : L2.St) (H : Hp) (s : Shared), Inv Y pl σ H s → s.heap.IsGen a g)
    (hR : ∀ (c : Bool) (pl : List (Addr × Obj)) (σ : L2.St) (H : Hp) (s : Shared) (h' : Heap) (gens' : Array GenState), Inv Y pl σ H s → Q (.bl c) H → AllBare gens' → (∀ b o, s.heap.get? b = some o → h'.get? b = some o) → R (.ok (.ret (.bool c))) { s with heap := h', gens := gens' }) :
    ∀ (n : Nat) (s : Shared), s.heap.IsGen a g → s.heap.NoLimit →
      (∃ gs, s.gens[g]? = some gs ∧ gs.Goes (model Y.prog Y.w) A1.in1.in1 (gxR Y true Q) (gxY Y true Q) n (.send .none) (s.setGen g .running)) →
      codeAny (model Y.prog Y.w) A1 (.builtin "all.loop" ⟨[.ref a], []⟩) R s := by
  intro n
  induction n with
  | zero =>
    intro s hg hl ⟨gs, hgs, hgo⟩
    refine codeAny_builtin F.entry_all_loop ?_
    rw [Around.under_plainId F.plain_all_loop _]
    show wpAny _ A1.in1 (pyNext (.ref a) >>= _) _ _ s
    refine wpAny_bind (wpAny_pyNext_genexpQ (A := A1.in1) (P := fun n s₀ s₁ => ∃ (σ : L2.St) (H : Hp) (pl : List (Addr × Obj)), Inv Y pl σ H s₁ ∧ Q (.bl true) H) hh hl hd hg hgs hgo (fun v s₁ gs' hb hv => ?_) (fun s₁ hp h' hk => ?_))
    · obtain ⟨c, σ, H, pl, rfl, I, q⟩ := hv
      refine wpAny_bind (wpAny_holding (wpAny_truthy_bool ?_))
      refine wpAny_bind (wpAny_letGo ?_)
      by_cases hc : c = true
      · rw [if_pos hc] at q
        exact (q s₁ rfl rfl I.bare).elim
      · rw [if_neg hc] at q
        have e : c = !true := by cases c <;> simp_all
        subst e
        simp only [Bool.not_true, Bool.not_false, if_true, Bool.false_eq_true, if_false]
        refine wpAny_bind (wpAny_rule (wpAny_pure ?_))
        exact hR _ pl σ H s₁ s₁.heap (s₁.setGen g gs').gens I q (allBare_setGen I.bare hb) fun _ _ z => z
    · obtain ⟨σ, H, pl, I, q⟩ := hp
      refine wpAny_bind (wpAny_rule (wpAny_pure ?_))
      exact hR true pl σ H s₁ h' (s₁.setGen g .finished).gens I q (allBare_setGen I.bare rfl) hk
  | succ m ih =>
    intro s hg hl ⟨gs, hgs, hgo⟩
    have gIn : g < s.gens.size := (Array.getElem?_eq_some_iff.mp hgs).1
    refine codeAny_builtin F.entry_all_loop ?_
    rw [Around.under_plainId F.plain_all_loop _]
    show wpAny _ A1.in1 (pyNext (.ref a) >>= _) _ _ s
    refine wpAny_bind (GenW.wpAny_gsz (n := g + 1) gIn (wpAny_pyNext_genexpQ (A := A1.in1) (P := fun n s₀ s₁ => ∃ (σ : L2.St) (H : Hp) (pl : List (Addr × Obj)), Inv Y pl σ H s₁ ∧ Q (.bl true) H) hh hl hd hg hgs hgo (fun v s₁ gs' hb hv => ?_) (fun s₁ hp h' hk => ?_)))
    · intro hsz
      have gIn1 : g < s₁.gens.size := by
        have q : (s₁.setGen g gs').gens.size = s₁.gens.size := GenW.setGen_size _ _ _
        have more : g + 1 ≤ (s₁.setGen g gs').gens.size := hsz
        omega
      obtain ⟨c, σ, H, pl, rfl, I, q⟩ := hv
      refine wpAny_bind (wpAny_holding (wpAny_truthy_bool ?_))
      refine wpAny_bind (wpAny_letGo ?_)
      by_cases hc : c = true
      · rw [if_pos hc] at q
        subst hc
        simp only [if_true, Bool.false_eq_true, if_false]
        refine wpAny_pure ⟨plainId_quiet F.plain_all_loop _, ?_⟩
        exact ih (s₁.setGen g gs') (hY pl σ H s₁ I) I.nolimit ⟨gs', setGen_at gIn1, q _ rfl rfl (allBare_setGen (s := s₁.setGen g gs') (allBare_setGen I.bare hb) rfl)⟩
      · rw [if_neg hc] at q
        have e : c = !true := by cases c <;> simp_all
        subst e
        simp only [Bool.not_true, Bool.not_false, if_true, Bool.false_eq_true, if_false]
        refine wpAny_bind (wpAny_rule (wpAny_pure ?_))
        exact hR _ pl σ H s₁ s₁.heap (s₁.setGen g gs').gens I q (allBare_setGen I.bare hb) fun _ _ z => z
    · intro _
      obtain ⟨σ, H, pl, I, q⟩ := hp
      refine wpAny_bind (wpAny_rule (wpAny_pure ?_))
      exact hR true pl σ H s₁ h' (s₁.setGen g .finished).gens I q (allBare_setGen I.bare rfl) hk
end Pyr
set_option Elab.async false
set_option autoImplicit false
set_option linter.all false
set_option maxRecDepth 100000
set_option maxHeartbeats 2000000
namespace Pyr
open PySem PySem.Spec PyProof.Rows L2 Evl
def GxReady (X : Cx) (pins : List (Addr × Obj)) (σ : L2.St) (isAll : Bool) (Q : VK) (a : Addr) (s5 : Shared) : Prop :=
  ∃ (A' : Around) (s4 : Shared) (H4 : Hp) (cenv : Env) (fp : List Addr) (pn : List (Addr × Obj)) (gi n : Nat), s5.heap.IsGen a gi ∧ s5.heap.NoLimit ∧
    (∃ gs, s5.gens[gi]? = some gs ∧ gs.Goes (model X.prog X.w) X.A.in1.in1 (gxR (gxX X A' s4 H4 cenv fp pn) isAll Q) (gxY (gxX X A' s4 H4 cenv fp pn) isAll Q) n (.send .none) (s5.setGen gi .running)) ∧
    (∀ (pl : List (Addr × Obj)) (σ' : L2.St) (H' : Hp) (s' : Shared), Inv (gxX X A' s4 H4 cenv fp pn) pl σ' H' s' → s'.heap.IsGen a gi) ∧
    (∀ (c : Bool) (pl : List (Addr × Obj)) (σ' : L2.St) (H' : Hp) (s' : Shared) (h' : Heap) (gens' : Array GenState), Inv (gxX X A' s4 H4 cenv fp pn) pl σ' H' s' → Q (.bl c) H' → AllBare gens' → (∀ b o, s'.heap.get? b = some o → h'.get? b = some o) → EP X pins σ Q (.bool c) { s' with heap := h', gens := gens' })
section
variable {X : Cx} {pins : List (Addr × Obj)} {σ : L2.St} {H : Hp} {s : Shared} {elt tg iter : Expr} {ifs : List Expr} {scope : Scope} {own : List (Str × Nat)} {gpos : Pos} {wi : TI} {g : TG} {tt : TT} {te : TE} {c P : Addr} {k : Nat} {isAll : Bool} {Q : VK} {Q' : Value → Shared → Prop}
theorem ne_lt {a b n : Nat} (h : a < n) (k : n ≤ b) : a ≠ b := Nat.ne_of_lt (Nat.lt_of_lt_of_le h k)
theorem codeHd_stay {c P : Addr} {h1 h2 : Heap} (x : PySem.W.CodeHd h1 c P) (k : ∀ o, h1.get? c = some o → h2.get? c = some o) : PySem.W.CodeHd h2 c P :=
  let ⟨o, vs, file, tf, flags, tg, inF, text, tt, e, r⟩ := x; ⟨o, vs, file, tf, flags, tg, inF, text, tt, k _ e, r⟩
theorem codeO_ok {P0 : Program} {w : World} {H : Hp} {h : Heap} {c P : Addr} {o : Obj} (e : h.get? c = some o) (x : PySem.W.CodeHd h c P) : ObjOk P0 w H h c (codeO o c P) :=
  ⟨e, x, ⟨o, e⟩, fun _ _ a k => codeHd_stay a k⟩
theorem inv_code {pins : List (Addr × Obj)} {σ : L2.St} {H : Hp} {s : Shared} {P c' P' : Addr} {ps ps' : Array Value} {h' : Heap} {oc : Obj} {t' : Nat} (I : Inv X pins σ H s) (hP : H P = some (.tbl ps)) (more : ∃ m, ps' = ps ++ m) (k : ∀ b o, b ≠ P → s.heap.get? b = some o → h'.get? b = some o)
    (hm : h'.get? P = some { cls := .none, data := .fields ps' }) (hc : s.heap.objs.size ≤ c') (hp : s.heap.objs.size ≤ P') (ne : c' ≠ P') (oc' : h'.get? c' = some oc) (cd : PySem.W.CodeHd h' c' P') (op : h'.get? P' = some { cls := .none, data := .fields #[] }) :
    Inv X pins σ (upd (upd (upd H P (.tbl ps')) c' (codeO oc c' P')) P' (.tbl #[])) { s with heap := h', toks := t' } := by
  have lP : P < s.heap.objs.size := I.hok.lt hP
  have hnc : H c' = none := I.hok.fresh hc
  have hnp : H P' = none := I.hok.fresh hp
  have at_ : ∀ b, b ≠ P → b ≠ c' → b ≠ P' → upd (upd (upd H P (.tbl ps')) c' (codeO oc c' P')) P' (.tbl #[]) b = H b := fun b h1 h2 h3 => by rw [upd_ne h3, upd_ne h2, upd_ne h1]
  have atP : upd (upd (upd H P (.tbl ps')) c' (codeO oc c' P')) P' (.tbl #[]) P = some (.tbl ps') := by rw [upd_ne (ne_lt lP hp), upd_ne (ne_lt lP hc), upd_same]
  have keepH : ∀ b u, b ≠ P → H b = some u → upd (upd (upd H P (.tbl ps')) c' (codeO oc c' P')) P' (.tbl #[]) b = some u := fun b u n e => by rw [at_ b n (ne_of_none e hnc) (ne_of_none e hnp)]; exact e
  have nP : ∀ b u, H b = some u → (∀ q, u ≠ .tbl q) → b ≠ P := fun b u e q z => by
    rw [z, hP] at e
    exact q ps (Option.some.inj e).symm
  have nN : ∀ b, H b = none → b ≠ P := fun b e z => by
    rw [z, hP] at e
    cases e
  refine I.step (g' := s.gens) (d' := s.drawn) (ch := []) (fun b hb => absurd hb (by simp)) (fun b o _ _ _ e n => k b o (nN b n) e) (fun b o _ _ _ e n => ⟨o.slots, k b o (nN b n) e⟩)
    (fun b o _ e n => by
      have := Heap.lt_size e
      rw [at_ b (nN b n) (ne_lt this hc) (ne_lt this hp)]
      exact n) (fun b o _ e => ?_) (fun b xs e => keepH b _ (nP b _ e (fun q z => by cases z)) e) (fun b o u e => keepH b _ (nP b _ e (fun q z => by cases z)) e) (fun b qs e => ?_) (fun m hn => ?_) (fun b u e => ?_) I.bare
  · by_cases hb : b = P
    · rw [hb]
      exact ⟨_, hm⟩
    · exact ⟨o, k b o hb e⟩
  · by_cases hb : b = P
    · rw [hb, hP] at e
      cases e
      rw [hb, atP]
      obtain ⟨m, rfl⟩ := more
      exact ⟨m, rfl⟩
    · rw [keepH b _ hb e]
      exact ⟨#[], by simp⟩
  · obtain ⟨ob, es, ep, ho, r⟩ := hn
    exact ⟨ob, es, ep, k _ ob (nN _ I.free) ho, r⟩
  · by_cases h3 : b = P'
    · rw [h3, upd_same] at e
      cases e
      rw [h3]
      exact op
    · rw [upd_ne h3] at e
      by_cases h2 : b = c'
      · rw [h2, upd_same] at e
        cases e
        rw [h2]
        exact codeO_ok oc' cd
      · rw [upd_ne h2] at e
        by_cases hb2 : b = P
        · rw [hb2, upd_same] at e
          cases e
          rw [hb2]
          exact hm
        · rw [upd_ne hb2] at e
          refine (I.hok b u e).stay (fun d v hd q => k d v ?_ q) (fun d q => keepH d _ (nP d _ q (fun q z => by cases z)) q) fun d xs q => keepH d _ (nP d _ q (fun q z => by cases z)) q
          rcases hd with z | z
          · rw [z]
            exact hb2
          · exact nP d _ z (fun q z => by cases z)
theorem gx_make {cdk : Hp → Prop} (hr : Room (k + 1) X.A) (hc : X.calm = true) (hN : X.N.Nodup) (TB : ∃ P0, X.base.BuiltinsAt X.mg P0) (hcd : ∀ (pins : List (Addr × Obj)) (σ : L2.St) (H : Hp) (s : Shared), Inv X pins σ H s → cdk H → PySem.W.CodeHd s.heap c P) (hcode : X.env.code = .ref c) (hi : PI X tg iter wi) (ok : BlkOk X.N X.env.scope scope own) (hcell : ∀ y ∈ scope.names, y.2 ≠ .cell) (hco : scope.isCoroutine = false) (hdot : scope.names.lookup (".0" : Str) = some NameKind.local) (hdN : (".0" : Str) ∉ X.N)
    {tt : Value → TT} {te : Value → TE} (hg : ∀ (A' : Around) (s : Shared) (H : Hp) (cl : List (Str × Addr)) (C : Addr) (code : Value) (fp : List Addr) (pn : List (Addr × Obj)), Room k A' → PG (gxX X A' s H (gxE X scope cl C code) fp pn) tg g)
    (ht : ∀ (A' : Around) (s : Shared) (H : Hp) (cl : List (Str × Addr)) (C : Addr) (code : Value) (fp : List Addr) (pn : List (Addr × Obj)), Room k A' → PTs (gxX X A' s H (gxE X scope cl C code) fp pn) ifs (tt code))
    (he : ∀ (A' : Around) (s : Shared) (H : Hp) (cl : List (Str × Addr)) (C : Addr) (code : Value) (fp : List Addr) (pn : List (Addr × Obj)), Room k A' → PE (gxX X A' s H (gxE X scope cl C code) fp pn) elt (te code))
    (hs : ∀ v, genFold iter X.env v = pure v) (I : Inv X pins σ H s) (h : tGx P cdk isAll wi g tt te (own.map (·.2)) σ H Q) (hQ : ∀ a s5, GxReady X pins σ isAll Q a s5 → Q' (.ref a) s5) :
    wpAny (model X.prog X.w) X.A (eval (.GeneratorExp elt [⟨tg, iter, ifs, 0⟩] scope gpos) X.env) Q' X.xe s := by
  refine wpAny_GeneratorExp_make hco (closure_ok (all_caught I ok)) hcell hdot ok.kind (by have := hr.dp; omega) ?_ hs
  refine thn (hi.run pins s σ H _ I h) fun xv s1 hx => thn hx fun itv s2 h2 => ?_
  obtain ⟨it, fp, tn, J, H2, e, I2, T, st2, f2, ⟨htb, hcdk⟩, q⟩ := h2
  subst e
  refine ⟨I2.nolimit, ?_⟩
  obtain ⟨ps, hP, htr⟩ := htb.tab
  have hPs : s2.heap.get? P = some { cls := .none, data := .fields ps } := I2.hok P _ hP
  have cd : PySem.W.CodeHd s2.heap c P := hcd _ _ _ _ I2 hcdk
  have nP : ∀ b ∈ fp, b ≠ P := fun b hb z => by
    have := (f2 b hb).1
    rw [z, hP] at this
    cases this
  have cont : ∀ (code : Value) (h3 : Heap) (tk : Nat) (H4 : Hp), Heap.ExtBut P s2.heap h3 → Inv X pins σ H4 { s2 with heap := h3, toks := tk } → Grown P H2 H4 code → (∀ b o, s2.heap.get? b = some o → H2 b = none → H4 b = none) →
      wpAny (model X.prog X.w) X.A (builtinsFor X.env.globals X.env.builtins) (fun bi s₄ =>
        ∀ h', h'.Ns s₄.heap.objs.size (fun y => if y = ".0" then some (.ref it) else none) → Heap.SameBut s₄.heap.objs.size (s₄.heap.push { cls := .type "frame", data := .dict #[] }) h' →
          Q' (.ref h'.objs.size) { s₄ with
            gens := s₄.gens.push (.fresh (.compStart (.GeneratorExp elt [⟨tg, iter, ifs, 0⟩] scope gpos) 0 (.ref it) .none (genEnv scope (cloFrom X.env.cells scope.names []) s₄.heap.objs.size code bi X.env))),
            toks := s₄.toks + 1 + 1 + 1,
            heap := h'.push { cls := .type "generator", data := .fields #[.int s₄.gens.size 0, .str "<genexpr>" (s₄.toks + 1), .str (X.env.qual ++ "<genexpr>") (s₄.toks + 1 + 1)] } }) X.xe { s2 with heap := h3, toks := tk } := by
    intro code h3 tk H4 hx I3 grown fr4
    obtain ⟨P0, bAt, bOb, e1, e2, e2b, _, e5, e6, e7, e8⟩ := TB
    have glob := I2.ok.mod.glob.keeps I2.bk
    have gP : mainGlobals ≠ P := fun z => by
      obtain ⟨og, eg, epg, hg1, hg2, hg3, _⟩ := glob
      rw [z, hPs] at hg1
      cases hg1
      first | cases hg2 | cases hg3
    have e4 : bAt ≠ P := fun z => by
      have := I2.bk _ _ e5
      rw [z, hPs] at this
      cases this
      cases e8
    refine wpAny_builtinsFor (m := X.mg) (by rw [I2.ok.glob]; exact glob.extBut hx gP) e1 e2 (hx _ _ e4 (I2.bk _ _ e5)) e6 e7 e8 ?_
    obtain ⟨W, ⟨m0, w0⟩, turn⟩ := q code H4 grown
    have n4 : ∀ b ∈ fp, H4 b = none := fun b hb => by
      obtain ⟨o, e, _⟩ := T.obj _ _ st2 b hb
      exact fr4 b o e (f2 b hb).1
    have st3 : tn 0 h3 := T.keep _ _ _ st2 fun b hb o e => hx b o (nP b hb) e
    generalize hs4 : ({ s2 with heap := h3, toks := tk } : Shared) = s4
    have I4 : Inv X pins σ H4 s4 := by
      rw [← hs4]
      exact I3
    have st4 : tn 0 s4.heap := by
      rw [← hs4]
      exact st3
    intro h' hn' hs'
    have hsz : h'.objs.size = s4.heap.objs.size + 1 := by rw [hs'.1, Heap.size_push]
    have f4 : ∀ b ∈ fp, FpOk X pins H4 b ∧ b < s4.heap.objs.size := fun b hb => by
      refine ⟨⟨n4 b hb, (f2 b hb).2⟩, ?_⟩
      obtain ⟨o, e, _⟩ := T.obj _ _ st4 b hb
      exact Heap.lt_size e
    have kp : ∀ (gobj : Obj) b o, s4.heap.get? b = some o → (h'.push gobj).get? b = some o := fun gobj b o e => Heap.get?_push_of_some _ (hs'.extBut b o (Nat.ne_of_lt (Heap.lt_size e)) (Heap.get?_push_of_some _ e))
    have hh : X.A.handled = none := hr.hd
    have hA' : Room k ((X.A.in1.in1).over (.compLoop (.GeneratorExp elt [⟨tg, iter, ifs, 0⟩] scope gpos) 0 (.ref it) .none (gxE X scope (cloFrom X.env.cells scope.names []) s4.heap.objs.size code)) []) := by
      have d1 : ((X.A.in1.in1).over (.compLoop (.GeneratorExp elt [⟨tg, iter, ifs, 0⟩] scope gpos) 0 (.ref it) .none (gxE X scope (cloFrom X.env.cells scope.names []) s4.heap.objs.size code)) []).depth ≤ X.A.depth + 1 := Nat.le_of_eq rfl
      have u1 : ((X.A.in1.in1).over (.compLoop (.GeneratorExp elt [⟨tg, iter, ifs, 0⟩] scope gpos) 0 (.ref it) .none (gxE X scope (cloFrom X.env.cells scope.names []) s4.heap.objs.size code)) []).units ≤ X.A.units + 5 := Nat.le_of_eq rfl
      refine ⟨hh, ?_, ?_⟩
      · have := hr.dp
        omega
      · have := hr.un
        omega
    have hfrm : ((X.A.in1.in1).over (.compLoop (.GeneratorExp elt [⟨tg, iter, ifs, 0⟩] scope gpos) 0 (.ref it) .none (gxE X scope (cloFrom X.env.cells scope.names []) s4.heap.objs.size code)) []).frames = some (gxE X scope (cloFrom X.env.cells scope.names []) s4.heap.objs.size code :: X.stack) := by
      show pushEnvs [gxE X scope (cloFrom X.env.cells scope.names []) s4.heap.objs.size code] X.A.frames = _
      rw [I4.ok.frames]
      rfl
    generalize hgo : ({ cls := .type "generator", data := .fields #[.int s4.gens.size 0, .str "<genexpr>" (s4.toks + 1), .str (X.env.qual ++ "<genexpr>") (s4.toks + 1 + 1)] } : Obj) = gobj
    have I5 := gx_start (it := .ref it) (gobj := gobj) (tk := s4.toks + 1 + 1 + 1) (code := code) (gens' := s4.gens.push (.fresh (.compStart (.GeneratorExp elt [⟨tg, iter, ifs, 0⟩] scope gpos) 0 (.ref it) .none (genEnv scope (cloFrom X.env.cells scope.names []) s4.heap.objs.size code builtinsNs X.env)))) I4 ok hN hcell f4 hA'.hd hfrm (by rw [← hgo]; intro v z; cases z) (by rw [← hgo]; rfl) hn' hs' hdN (I4.bare.push rfl)
    generalize hA2 : ((X.A.in1.in1).over (.compLoop (.GeneratorExp elt [⟨tg, iter, ifs, 0⟩] scope gpos) 0 (.ref it) .none (gxE X scope (cloFrom X.env.cells scope.names []) s4.heap.objs.size code)) []) = A2 at I5 hA' hfrm
    have isg : ∀ {h5 : Heap}, h5.get? h'.objs.size = some gobj → h5.IsGen h'.objs.size s4.gens.size := fun {h5} e => by
      rw [← hgo] at e
      exact ⟨_, _, _, e, rfl, rfl, rfl⟩
    refine hQ _ _ ⟨A2, s4, H4, gxE X scope (cloFrom X.env.cells scope.names []) s4.heap.objs.size code, fp, [(h'.objs.size, gobj)], s4.gens.size, m0 + 1, isg (Heap.get?_push_size _ (by rw [← hgo]; rfl)), I5.nolimit, ⟨_, Array.getElem?_push_size .., rfl, ?_⟩, fun pl σ' H' s' I' => ?_, fun cb pl σ' H' s' h5 gens' I' qf hb hk => ?_⟩
    · have I6 : Inv (gxX X A2 s4 H4 (gxE X scope (cloFrom X.env.cells scope.names []) s4.heap.objs.size code) fp [(h'.objs.size, gobj)]) [] (wipe σ (own.map (·.2))) H4 (Shared.setGen { s4 with gens := s4.gens.push (.fresh (.compStart (.GeneratorExp elt [⟨tg, iter, ifs, 0⟩] scope gpos) 0 (.ref it) .none (genEnv scope (cloFrom X.env.cells scope.names []) s4.heap.objs.size code builtinsNs X.env))), toks := s4.toks + 1 + 1 + 1, heap := h'.push gobj } s4.gens.size .running) :=
        inv_gens I5 rfl rfl (allBare_setGen I5.bare rfl)
      have loop := gx_loop (Y := gxX X A2 s4 H4 (gxE X scope (cloFrom X.env.cells scope.names []) s4.heap.objs.size code) fp [(h'.objs.size, gobj)]) (B := X.A.in1.in1) (σ := σ) (vs := own.map (·.2)) hc hA2.symm rfl rfl hco
        (fun p hp z => by
          rw [List.mem_singleton.mp hp] at z
          have h1 := (f4 _ z).2
          rw [hsz] at h1
          exact absurd h1 (Nat.not_lt.mpr (Nat.le_succ _))) T (hg A2 s4 H4 _ _ code fp _ hA') (ht A2 s4 H4 _ _ code fp _ hA') (he A2 s4 H4 _ _ code fp _ hA') turn m0 (m0 + 1) 0 H4
      have st6 : tn 0 (h'.push gobj) := T.keep _ _ _ st4 fun b hb o e => kp gobj b o e
      show Seg _ _ _ _ _ _ _ ((compStart (.GeneratorExp elt [⟨tg, iter, ifs, 0⟩] scope gpos) 0 (.ref it) .none (gxE X scope (cloFrom X.env.cells scope.names []) s4.heap.objs.size code)).onRaise (leaving (gxE X scope (cloFrom X.env.cells scope.names []) s4.heap.objs.size code))) [] _
      have loop2 := fun s₀ => loop s₀ _ (Nat.lt_succ_self _) I6 st6 n4 w0
      unfold compStart
      rw [Sem.onRaise_eq_wrap]
      show Seg _ _ _ _ _ _ _ ((ask >>= _).wrap _ _ _ _) [] _
      refine seg_bind_wrap (wpAny_askSetting ?_)
      split
      · exact seg_again rfl (loop2 _)
      · first
          | exact seg_bind_wrap (wpAny_rule (seg_bind_wrap (wpAny_standAt (seg_bind_wrap (T.self _ 0 _ _ _ st6 (seg_again rfl (loop2 _)))))))
          | (refine seg_bind_wrap (wpAny_rule ?_); show Seg _ _ _ _ _ _ _ ((standAt iter.pos >>= _).wrap _ _ _ _) [] _; exact seg_bind_wrap (wpAny_standAt (seg_bind_wrap (T.self _ 0 _ _ _ st6 (seg_again rfl (loop2 _))))))
    · exact isg (I'.pin (h'.objs.size, gobj) (List.mem_append_left _ (List.mem_singleton.mpr rfl))).1
    · have I7 : Inv X pins σ H' { s' with gens := gens' } := I4.call' (ch := fp) (s' := { s' with gens := gens' }) I'.os I'.base I'.hok hb fun b hb => ⟨(f4 b hb).1.2.2.2.1, (f4 b hb).1.2.1, (f4 b hb).1.2.2.2.2.1, (f4 b hb).1.2.2.2.2.2⟩
      exact ⟨.bl cb, H', I7.kept (t' := s'.toks) hk, rfl, qf⟩
  cases known : codeAmong gpos ps.toList with
  | none =>
    refine wpAny_genexprCodeX hcode (cd.code hPs htr) (cd.tab hPs) known fun c' h' tk hx hge hlt hco' _ htab' hnew => ?_
    obtain ⟨P', hP', hcode', htab2⟩ := hnew
    have cdn := PySem.W.CodeHd.of hcode' htab2
    obtain ⟨o1, v1, f1, tf1, fl1, tg1, in1, tx1, tt1, oc1, _, _, _, _, _, _, _, _, ne⟩ := id cdn
    have lP : P < s2.heap.objs.size := Heap.lt_size hPs
    refine cont _ h' tk _ hx (inv_code I2 hP ⟨_, rfl⟩ (fun b o hb e => hx b o hb e) htab'.2 hge hP' ne oc1 cdn htab2.2) ⟨fun a u n e => ?_, fun Q z => ?_, c', P', o1, rfl, ?_, ?_⟩ fun b o e n => ?_
    · rw [upd_ne (ne_of_none e (I2.hok.fresh hP')), upd_ne (ne_of_none e (I2.hok.fresh hge)), upd_ne n]
      exact e
    · refine TblOk.grow (c' := c') (ob := o1) (x := gpos.line) (y := gpos.col) hP htr (fun a u n e => ?_) ?_ ?_ upd_same z
      · rw [upd_ne (ne_of_none e (I2.hok.fresh hP')), upd_ne (ne_of_none e (I2.hok.fresh hge)), upd_ne n]
        exact e
      · rw [upd_ne (ne_lt lP hP'), upd_ne (ne_lt lP hge), upd_same]
      · rw [upd_ne ne, upd_same]
    · rw [upd_ne ne, upd_same]
    · exact TblOk.empty upd_same
    · have l := Heap.lt_size e
      have nP2 : b ≠ P := fun z => by
        rw [z, hP] at n
        cases n
      rw [upd_ne (ne_lt l hP'), upd_ne (ne_lt l hge), upd_ne nP2]
      exact n
  | some cv =>
    refine wpAny_genexprCode_hit hcode (cd.code hPs htr) known ?_
    have gr : Grown P H2 H2 cv := by
      cases htb with
      | mk _ ps2 cf pf h t n r =>
        rw [hP] at h
        cases h
        obtain ⟨h1, o, h2⟩ := n _ _ known
        exact ⟨fun a u _ e => e, fun _ z => z, cf gpos, pf gpos, o, h1, h2, r _ _ known⟩
    exact cont cv s2.heap s2.toks H2 (Heap.ExtBut.refl _ _) I2 gr fun _ _ _ n => n
end
end Pyr
set_option Elab.async false
set_option autoImplicit false
set_option linter.all false
set_option maxRecDepth 100000
set_option maxHeartbeats 2000000
namespace Pyr
open PySem PySem.Spec PyProof.Rows L2 Evl
section
variable {X : Cx} {elt tg iter : Expr} {ifs : List Expr} {scope : Scope} {own : List (Str × Nat)} {gpos : Pos} {wi : TI} {g : TG} {tt : Value → TT} {te : Value → TE} {c P : Addr} {k : Nat} {cdk : Hp → Prop}
theorem pe_gx_all {p pos : Pos} (hr : Room (k + 1) X.A) (hc : X.calm = true) (hN : X.N.Nodup) (hgl : Gl X "all") (hm : X.mg "all" = none) (TB : ∃ P0, X.base.BuiltinsAt X.mg P0) (hcd : ∀ (pins : List (Addr × Obj)) (σ : L2.St) (H : Hp) (s : Shared), Inv X pins σ H s → cdk H → PySem.W.CodeHd s.heap c P) (hcode : X.env.code = .ref c) (hi : PI X tg iter wi) (ok : BlkOk X.N X.env.scope scope own) (hcell : ∀ y ∈ scope.names, y.2 ≠ .cell) (hco : scope.isCoroutine = false) (hdot : scope.names.lookup (".0" : Str) = some NameKind.local) (hdN : (".0" : Str) ∉ X.N)
    (hg : ∀ (A' : Around) (s : Shared) (H : Hp) (cl : List (Str × Addr)) (C : Addr) (code : Value) (fp : List Addr) (pn : List (Addr × Obj)), Room k A' → PG (gxX X A' s H (gxE X scope cl C code) fp pn) tg g)
    (ht : ∀ (A' : Around) (s : Shared) (H : Hp) (cl : List (Str × Addr)) (C : Addr) (code : Value) (fp : List Addr) (pn : List (Addr × Obj)), Room k A' → PTs (gxX X A' s H (gxE X scope cl C code) fp pn) ifs (tt code))
    (he : ∀ (A' : Around) (s : Shared) (H : Hp) (cl : List (Str × Addr)) (C : Addr) (code : Value) (fp : List Addr) (pn : List (Addr × Obj)), Room k A' → PE (gxX X A' s H (gxE X scope cl C code) fp pn) elt (te code))
    (hs : ∀ v, genFold iter X.env v = pure v)
    (hst : starEach [.GeneratorExp elt [⟨tg, iter, ifs, 0⟩] scope gpos] X.env = (false, eval (.GeneratorExp elt [⟨tg, iter, ifs, 0⟩] scope gpos) X.env) :: starEach [] X.env := by rfl) :
    PE X (.Call (.Name "all" p) [.GeneratorExp elt [⟨tg, iter, ifs, 0⟩] scope gpos] [] pos) (tGx P cdk true wi g tt te (own.map (·.2))) := by
  refine ⟨fun pins s σ H Q I h => ?_⟩
  refine wpAny_Call_Name_kw (ld_blt I hgl hm boot_all ?_)
  refine PyProof.Rows.callWith_builtin1 ?_ hst (by rfl)
  rw [hst]
  show wpAny _ _ (spliced ((false, eval (.GeneratorExp elt [⟨tg, iter, ifs, 0⟩] scope gpos) X.env) :: backTo pos (starEach [] X.env))) _ _ s
  refine Calls.spliced_cons (gx_make hr hc hN TB hcd hcode hi ok hcell hco hdot hdN hg ht he hs I h fun a s5 hG => ?_)
  obtain ⟨A', s4, H4, cenv, fp, pn, gi, n, hg1, hl, hgo, hY, hR⟩ := hG
  refine Calls.spliced_nil ?_
  refine call_function_tree F.kind_all F.plain_all F.entry_all (F.args_all1 _) ?_
  unfold Builtin.«all»
  refine wpAny_bind (m := oneArg "all" _) (wpAny_pure ?_)
  refine wpAny_bind (wpAny_pyIter_gen hg1 ?_)
  refine wpAny_pure ⟨plainId_quiet F.plain_all_loop _, ?_⟩
  exact gx_drain_all (Y := gxX X A' s4 H4 cenv fp pn) (A1 := X.A) (Q := Q) hr.hd (by have := hr.dp; omega) hY (fun c pl σ' H' s' h' gens' I' q hb hk => hR c pl σ' H' s' h' gens' I' q hb hk) n s5 hg1 hl hgo
end
end Pyr
set_option Elab.async false
set_option autoImplicit false
set_option linter.all false
set_option maxRecDepth 100000
set_option maxHeartbeats 2000000
namespace Pyr
open PySem PySem.Spec PyProof.Rows L2 Evl
theorem takesF {X : Cx} : Takes X (fun _ _ _ _ => False) := fun u s' x => by
  obtain ⟨_, _, _, _, _, _, _, _, _, _, _, _, _, _, _, _, w⟩ := x
  exact w.elim
def gxF (isAll : Bool) (t : Tg) (tt : En → Res Bool) (fe : En → Res D) (ρ : En) : List D → Res D
  | [] => .ok (.bool isAll)
  | d :: ds => (tgE t d ρ).bind fun ρ1 => (noX (tt ρ1)).bind fun b => if b then (noX (fe ρ1)).bind fun y => (boolD y).bind fun c => if c = isAll then gxF isAll t tt fe ρ ds else .ok (.bool c) else gxF isAll t tt fe ρ ds
def eGx (isAll : Bool) (own : List Nat) (t : Tg) (fi : En → Res (List D)) (tt : En → Res Bool) (fe : En → Res D) : En → Res D := fun ρ => (fi ρ).bind fun ds => gxF isAll t tt fe (wipeE ρ own) ds
section
variable {TS : TabList} {X : Cx} {tg iter elt : Expr} {fi : En → Res (List D)} {tt : En → Res Bool} {fe : En → Res D} {ifs : List Expr} {pos : Pos} {t : Tg} {scope : Scope} {own : List (Str × Nat)} {k : Nat}
def gxT (X : Cx) (k : Nat) (scope : Scope) (ifs : List Expr) : Value → TT := fun code σ H Q => ∀ (A' : Around) (s : Shared) (H0 : Hp) (cl : List (Str × Addr)) (C : Addr) (fp : List Addr) (pn : List (Addr × Obj)), Room k A' → wpTs (gxX X A' s H0 (gxE X scope cl C code) fp pn) ifs σ H Q
def gxEl (X : Cx) (k : Nat) (scope : Scope) (elt : Expr) : Value → TE := fun code σ H Q => ∀ (A' : Around) (s : Shared) (H0 : Hp) (cl : List (Str × Addr)) (C : Addr) (fp : List Addr) (pn : List (Addr × Obj)), Room k A' → wpE (gxX X A' s H0 (gxE X scope cl C code) fp pn) elt σ H Q
theorem gr_grown {G H H' : Hp} {P : Addr} {code : Value} (ok : Ok0 TS G H) (hP : TblOk H P) (h : Grown P H H' code) : Gr TS G H G H' := by
  obtain ⟨qs, q1, _⟩ := hP.tab
  have ex : ExT H H' := ⟨fun a o e n => h.keep a o (fun z => by
    rw [z, q1] at e
    cases e
    exact n _ rfl) e, fun a e => by
    by_cases z : a = P
    · obtain ⟨qs2, q2, _⟩ := (h.tb P hP).tab
      rw [z, q2] at e
      cases e
    · cases q : H a with
      | none => rfl
      | some u =>
        rw [h.keep a u z q] at e
        exact (nomatch e), h.tb⟩
  refine ⟨Ex.refl G, ex, fun _ h => .inl h, ⟨fun a o e => ?_, ok.tb.ext ex, ok.nt⟩⟩
  refine h.keep a o (fun z => ?_) (ok.le _ _ e)
  have e2 := ok.le _ _ e
  have e3 := ok.nt _ _ e
  rw [z, q1] at e2
  cases e2
  cases e3
section
variable {G H G' H' : Hp} {b : Bool} {c' P' : Addr}
theorem Ok0.more (ok : Ok0 TS G H) (hc : ∃ o, H c' = some (codeO o c' P')) (hp : TblOk H P') : Ok0 (TS.more b c' P') G H := by
  refine ⟨ok.le, ⟨ok.tb.all, fun p hp2 => ?_⟩, ok.nt⟩
  cases b with
  | false => exact ok.tb.cs p hp2
  | true =>
    rcases List.mem_cons.mp (show p ∈ (c', P') :: TS.cs from hp2) with rfl | h
    · exact ⟨hc, hp⟩
    · exact ok.tb.cs p h
theorem Ok0.less (ok : Ok0 (TS.more b c' P') G H) : Ok0 TS G H := by
  refine ⟨ok.le, ⟨ok.tb.all, fun p hp2 => ok.tb.cs p ?_⟩, ok.nt⟩
  cases b with
  | false => exact hp2
  | true => exact List.mem_cons_of_mem _ hp2
theorem Gr.less (g : Gr (TS.more b c' P') G H G' H') : Gr TS G H G' H' := ⟨g.g, g.h, g.nw, g.ok.less⟩
theorem Gr.up (g : Gr TS G H G' H') (ok : Ok0 (TS.more b c' P') G H) : Gr (TS.more b c' P') G H G' H' := ⟨g.g, g.h, g.nw, ⟨g.ok.le, ok.tb.ext g.h, g.ok.nt⟩⟩
theorem RpE.up {K : PySem.W.Frag} {ρ : En} {σ : L2.St} (r : RpE TS K G H ρ σ) : RpE (TS.more b c' P') K G H ρ σ := ⟨r.len, r.at', r.lo, fun i ds h => let ⟨a, h1, h2⟩ := r.st i ds h; ⟨a, h1, ⟨h2.ex⟩⟩, fun i x h => let ⟨a, h1, h2⟩ := r.ex i x h; ⟨a, h1, by
  cases h2 with
  | cls z => exact .cls z
  | fld z1 z2 z3 z4 => exact .fld z1 z2 z3 z4⟩⟩
theorem PostX.up {W : WX} {σ : L2.St} {c : Str} {fs : List (Str × D)} (p : PostX TS X W σ G H c fs) : PostX (TS.more b c' P') X W σ G H c fs := fun C d G' H' m g r => p C d G' H' m g.less r
theorem PostG.up {α β : Type} {Rel : Hp → Hp → Hp → α → β → Prop} {W : WX} {σ : L2.St} {r : Res β} {Q : α → Hp → Prop} (p : PostG Rel TS X W σ G H r Q) : PostG Rel (TS.more b c' P') X W σ G H r Q := by
  induction r with
  | ok x => exact fun v G' H' g rel => p v G' H' g.less rel
  | exc c fs => exact PostX.up p
  | bad => exact p
  | alt f ih => exact fun i => ih i (p i)
end
structure CdAt (TS : TabList) (X : Cx) (c P : Addr) : Prop where
  bm : ∃ P0, X.base.BuiltinsAt X.mg P0
  at' : (PySem.W.CodeHd X.base c P ∧ P ∈ TS) ∨ (c, P) ∈ TS.cs
theorem CdAt.tb {c P : Addr} (x : CdAt TS X c P) {H : Hp} (t : TbOk TS H) : TblOk H P ∧ (PySem.W.CodeHd X.base c P ∨ ∃ o, H c = some (codeO o c P)) := by
  rcases x.at' with ⟨h1, h2⟩ | h
  · exact ⟨t.all P h2, .inl h1⟩
  · exact ⟨(t.cs _ h).2, .inr (t.cs _ h).1⟩
theorem cd_here {c P : Addr} (pins : List (Addr × Obj)) (σ : L2.St) (H : Hp) (s : Shared) (I : Inv X pins σ H s) (h : PySem.W.CodeHd X.base c P ∨ ∃ o, H c = some (codeO o c P)) : PySem.W.CodeHd s.heap c P := by
  rcases h with h | ⟨o, h⟩
  · exact h.keeps fun b u e => I.bk b u e
  · exact (I.hok c _ h).2.1
theorem CdAt.top {c P : Addr} (TB : GxR.TabB X.base X.mg c P) (hP : P ∈ TS) : CdAt TS X c P := ⟨⟨P, TB.bm⟩, .inl ⟨TB.code, hP⟩⟩
theorem gx_core {W : WX} {ρ : En} {σ : L2.St} {G H : Hp} {Q : VK} {c P : Addr} {isAll : Bool} (b : Bool) (CA : CdAt TS X c P) (hi : DI TS X tg iter fi) (ho : ∀ i ∈ t.all, i ∈ own.map (·.2))
    (ht : ∀ (A' : Around) (s : Shared) (H : Hp) (cl : List (Str × Addr)) (C : Addr) (code : Value) (fp : List Addr) (pn : List (Addr × Obj)) (c' P' : Addr), Room k A' → code = .ref c' → DTs (TS.more b c' P') (gxX X A' s H (gxE X scope cl C code) fp pn) ifs tt)
    (he : ∀ (A' : Around) (s : Shared) (H : Hp) (cl : List (Str × Addr)) (C : Addr) (code : Value) (fp : List Addr) (pn : List (Addr × Obj)) (c' P' : Addr), Room k A' → code = .ref c' → DE (TS.more b c' P') (gxX X A' s H (gxE X scope cl C code) fp pn) elt fe)
    (tk : Takes X W) (re : RpE TS X.K G H ρ σ) (ok : Ok0 TS G H) (post : PostG (RelE X.K) TS X W σ G H (eGx isAll (own.map (·.2)) t fi tt fe ρ) Q) :
    tGx P (fun H => PySem.W.CodeHd X.base c P ∨ ∃ o, H c = some (codeO o c P)) isAll (wpIt X tg iter) (gTg X.K t) (gxT X k scope ifs) (gxEl X k scope elt) (own.map (·.2)) σ H Q := by
  refine bindP (wp := fun R => wpIt X tg iter σ H R) back_E (fun Q' p => hi W ρ σ G H Q' tk re ok p) post fun J ds G1 H1 _ g1 wk p => ?_
  refine ⟨CA.tb g1.ok.tb, fun code H1' hG => ?_⟩
  have gT := gr_grown g1.ok (CA.tb g1.ok.tb).1 hG
  obtain ⟨c', P', oc, hcode, hc1, hp1⟩ := hG.code
  have p := (PostG.shift back_E gT p).up (b := b) (c' := c') (P' := P')
  have okU : Ok0 (TS.more b c' P') G1 H1' := gT.ok.more ⟨oc, hc1⟩ hp1
  have reW : ∀ {G' H' : Hp}, Gr (TS.more b c' P') G1 H1' G' H' → RpE (TS.more b c' P') X.K G' H' (wipeE ρ (own.map (·.2))) (wipe σ (own.map (·.2))) := fun e => ((((re.mono g1).mono gT).up).mono e).wipe _
  generalize hρ : wipeE ρ (own.map (·.2)) = ρ0 at p reW
  refine ⟨fun i m H => m = ds.length - i ∧ i ≤ ds.length ∧ ∃ Gi, Gr (TS.more b c' P') G1 H1' Gi H ∧ PostG (RelE X.K) (TS.more b c' P') X W σ G1 H1' (gxF isAll t tt fe ρ0 (ds.drop i)) Q,
    ⟨ds.length, by simp, Nat.zero_le _, G1, Gr.refl okU, by rw [List.drop_zero]; exact p⟩, ?_⟩
  rintro i m H2 ⟨rfl, hi2, Gi, gi, hr⟩
  obtain ⟨w1, w2⟩ := wk Gi H2 gi.g gi.ok.less
  by_cases hlt : i < ds.length
  · have hx : ds[i]? = some ds[i] := List.getElem?_eq_getElem hlt
    have hd : ds.drop i = ds[i] :: ds.drop (i + 1) := List.drop_eq_getElem_cons hlt
    rw [hd] at hr
    obtain ⟨h1, h2⟩ := w1 i _ hx
    refine .inr ⟨h1, fun H' => ∃ Gi, Gr (TS.more b c' P') G1 H1' Gi H' ∧ PostG (RelE X.K) (TS.more b c' P') X W σ G1 H1' (gxF isAll t tt fe ρ0 (ds.drop (i + 1))) Q, fun H' h => ⟨ds.length - (i + 1), by omega, rfl, hlt, h⟩, fun v H' y => ?_⟩
    obtain ⟨G', g, r⟩ := h2 v H' y
    have g := g.up gi.ok
    have hr : PostG (RelE X.K) (TS.more b c' P') X W σ G1 H1' ((tgE t ds[i] ρ0).bind fun ρ1 => (noX (tt ρ1)).bind fun b => if b then (noX (fe ρ1)).bind fun y => (boolD y).bind fun c => if c = isAll then gxF isAll t tt fe ρ0 (ds.drop (i + 1)) else .ok (.bool c) else gxF isAll t tt fe ρ0 (ds.drop (i + 1))) Q := hr
    revert hr
    refine tgE_ok (fun z => PostG (RelE X.K) (TS.more b c' P') X W σ G1 H1' (z.bind _) Q → _) (fun ρ1 e1 hr => ?_) fun hr => hr.elim
    refine gTg_ok g.ok ho r (reW (gi.trans g)) e1 fun σ2 re2 hw => ?_
    rw [wipe_wipe] at hw
    refine ⟨hw, fun A' s' H0' cl' C' fp' pn' hroom => ?_⟩
    refine ht A' s' H0' cl' C' code fp' pn' c' P' hroom hcode (fun _ _ _ _ => False) ρ1 σ2 G' H' _ takesF re2 g.ok (noXP hr fun b' b0 G3 H3 g3 eb hr => ?_)
    subst eb
    cases b' with
    | false => exact iteF ⟨G3, (gi.trans g).trans g3, hr⟩
    | true =>
      refine iteT fun A' s' H0' cl' C' fp' pn' hroom => ?_
      refine he A' s' H0' cl' C' code fp' pn' c' P' hroom hcode (fun _ _ _ _ => False) ρ1 σ2 G3 H3 _ takesF (re2.mono g3) g3.ok (noXP hr fun yv yd G4 H4 g4 ry hr => ?_)
      cases ry with
      | bl cb =>
        have hr : PostG (RelE X.K) (TS.more b c' P') X W σ G1 H1' (if cb = isAll then gxF isAll t tt fe ρ0 (ds.drop (i + 1)) else .ok (.bool cb)) Q := hr
        refine ⟨cb, rfl, ?_⟩
        have gg := ((gi.trans g).trans g3).trans g4
        by_cases hc : cb = isAll
        · rw [if_pos hc] at hr ⊢
          exact ⟨G4, gg, hr⟩
        · rw [if_neg hc] at hr ⊢
          exact hr _ G4 H4 gg (.bl cb)
      | _ => exact hr.elim
  · have e : i = ds.length := by omega
    subst e
    rw [List.drop_length] at hr
    exact .inl ⟨w2, hr _ Gi H2 gi (.bl isAll)⟩
theorem de_gxB_all {p gpos : Pos} {c P : Addr} (b : Bool) (C : CtE X) (hr : Room (k + 1) X.A) (hgl : Gl X "all") (hm : X.mg "all" = none) (CA : CdAt TS X c P) (hcode : X.env.code = .ref c) (hi : DI TS X tg iter fi) (ok : BlkOk X.N X.env.scope scope own) (ho : ∀ i ∈ t.all, i ∈ own.map (·.2)) (hcell : ∀ y ∈ scope.names, y.2 ≠ .cell) (hco : scope.isCoroutine = false) (hdot : scope.names.lookup (".0" : Str) = some NameKind.local) (hdN : (".0" : Str) ∉ X.N)
    (hg : ∀ (A' : Around) (s : Shared) (H : Hp) (cl : List (Str × Addr)) (C : Addr) (code : Value) (fp : List Addr) (pn : List (Addr × Obj)), Room k A' → PG (gxX X A' s H (gxE X scope cl C code) fp pn) tg (gTg X.K t))
    (ht : ∀ (A' : Around) (s : Shared) (H : Hp) (cl : List (Str × Addr)) (C : Addr) (code : Value) (fp : List Addr) (pn : List (Addr × Obj)) (c' P' : Addr), Room k A' → code = .ref c' → DTs (TS.more b c' P') (gxX X A' s H (gxE X scope cl C code) fp pn) ifs tt)
    (he : ∀ (A' : Around) (s : Shared) (H : Hp) (cl : List (Str × Addr)) (C : Addr) (code : Value) (fp : List Addr) (pn : List (Addr × Obj)) (c' P' : Addr), Room k A' → code = .ref c' → DE (TS.more b c' P') (gxX X A' s H (gxE X scope cl C code) fp pn) elt fe)
    (hs : ∀ v, genFold iter X.env v = pure v := by intro _; rfl)
    (hst : starEach [.GeneratorExp elt [⟨tg, iter, ifs, 0⟩] scope gpos] X.env = (false, eval (.GeneratorExp elt [⟨tg, iter, ifs, 0⟩] scope gpos) X.env) :: starEach [] X.env := by rfl) :
    DE TS X (.Call (.Name "all" p) [.GeneratorExp elt [⟨tg, iter, ifs, 0⟩] scope gpos] [] pos) (eGx true (own.map (·.2)) t fi tt fe) := by
  refine ⟨?_⟩
  intro W ρ σ G H Q tk re k0 post
  exact wpE_of (pe_gx_all hr C.calm C.nd hgl hm CA.bm cd_here hcode (pi_wp X tg iter) ok hcell hco hdot hdN hg (fun A' s H cl C code fp pn hroom => ⟨fun pins s1 σ H1 Q I h => h A' s H cl C fp pn hroom pins s1 I⟩) (fun A' s H cl C code fp pn hroom => ⟨fun pins s1 σ H1 Q I h => h A' s H cl C fp pn hroom pins s1 I⟩) hs hst) (gx_core (elt := elt) b CA hi ho ht he tk re k0 post)
theorem de_gx_all {p gpos : Pos} {c P : Addr} (C : CtE X) (hr : Room (k + 1) X.A) (hgl : Gl X "all") (hm : X.mg "all" = none) (TB : GxR.TabB X.base X.mg c P) (hP : P ∈ TS) (hcode : X.env.code = .ref c) (hi : DI TS X tg iter fi) (ok : BlkOk X.N X.env.scope scope own) (ho : ∀ i ∈ t.all, i ∈ own.map (·.2)) (hcell : ∀ y ∈ scope.names, y.2 ≠ .cell) (hco : scope.isCoroutine = false) (hdot : scope.names.lookup (".0" : Str) = some NameKind.local) (hdN : (".0" : Str) ∉ X.N)
    (hg : ∀ (A' : Around) (s : Shared) (H : Hp) (cl : List (Str × Addr)) (C : Addr) (code : Value) (fp : List Addr) (pn : List (Addr × Obj)), Room k A' → PG (gxX X A' s H (gxE X scope cl C code) fp pn) tg (gTg X.K t))
    (ht : ∀ (A' : Around) (s : Shared) (H : Hp) (cl : List (Str × Addr)) (C : Addr) (code : Value) (fp : List Addr) (pn : List (Addr × Obj)), Room k A' → DTs TS (gxX X A' s H (gxE X scope cl C code) fp pn) ifs tt)
    (he : ∀ (A' : Around) (s : Shared) (H : Hp) (cl : List (Str × Addr)) (C : Addr) (code : Value) (fp : List Addr) (pn : List (Addr × Obj)), Room k A' → DE TS (gxX X A' s H (gxE X scope cl C code) fp pn) elt fe)
    (hs : ∀ v, genFold iter X.env v = pure v := by intro _; rfl)
    (hst : starEach [.GeneratorExp elt [⟨tg, iter, ifs, 0⟩] scope gpos] X.env = (false, eval (.GeneratorExp elt [⟨tg, iter, ifs, 0⟩] scope gpos) X.env) :: starEach [] X.env := by rfl) :
    DE TS X (.Call (.Name "all" p) [.GeneratorExp elt [⟨tg, iter, ifs, 0⟩] scope gpos] [] pos) (eGx true (own.map (·.2)) t fi tt fe) :=
  de_gxB_all false C hr hgl hm (CdAt.top TB hP) hcode hi ok ho hcell hco hdot hdN hg (fun A' s H cl C code fp pn c' P' hroom _ => ht A' s H cl C code fp pn hroom) (fun A' s H cl C code fp pn c' P' hroom _ => he A' s H cl C code fp pn hroom) hs hst
end
end Pyr
set_option Elab.async false
set_option autoImplicit false
set_option linter.all false
set_option maxRecDepth 100000
set_option maxHeartbeats 2000000
namespace Pyr
open PySem PySem.Spec PyProof.Rows L2 Evl
structure FunC (K : PySem.W.Frag) (x : Str) (st : Stmt) (f : Addr) (fd : FuncData) (cdv : Value) : Prop where
  ex : ∃ (oc : Value) (od : Option Addr) (kV doc pm : Value) (an : Option Addr) (ct : Value) (osl : Array (Option Value)),
    fd = PySem.W.fnOf x x (defArgs st) (defBody st) (defScope st) .none kV doc pm an cdv ct ∧ K.lookup f = some ⟨oc, od, .func fd, osl⟩ ∧ PySem.W.codeIn K cdv x = true
  kp : PySem.W.keepIn K (.ref f) = true
def DfnC (K : PySem.W.Frag) (mg : Str → Option Value) (x : Str) (st : Stmt) (ps : List Str) (cdv : Value) : Prop := ∃ f fd, FunC K x st f fd cdv ∧ mg x = some (.ref f) ∧ Binds K fd ps []
def DefInC (K : PySem.W.Frag) (x : Str) (st : Stmt) (cdv : Value) : Prop := ∃ (f : Addr) (oc : Value) (od an : Option Addr) (sl : Array (Option Value)) (kV doc pm ct : Value),
  PySem.W.nsIn K mainGlobals x = some (some (.ref f)) ∧ K.lookup f = some ⟨oc, od, .func (PySem.W.fnOf x x (defArgs st) (defBody st) (defScope st) .none kV doc pm an cdv ct), sl⟩ ∧ PySem.W.codeIn K cdv x = true ∧ PySem.W.keepIn K (.ref f) = true
theorem DefInC.dfn {K : PySem.W.Frag} {mg : Str → Option Value} {h : Heap} {x : Str} {st : Stmt} {ps : List Str} {cdv : Value} (d : DefInC K x st cdv) (X : K.In h) (G : h.Ns mainGlobals mg) (b : BindOk x st ps) : DfnC K mg x st ps cdv := by
  obtain ⟨f, oc, od, an, sl, kV, doc, pm, ct, h1, h2, h3, h4⟩ := d
  exact ⟨f, _, ⟨⟨oc, od, kV, doc, pm, an, ct, sl, rfl, h2, h3⟩, h4⟩, PySem.W.mg_of X G h1, (fun_mk h2 h3 h4).binds b⟩
theorem fnok_mkC {TS : TabList} {P : Program} {w : World} {K : PySem.W.Frag} {mg : Str → Option Value} {base : Heap} {x : Str} {st : Stmt} {f : Addr} {fd : FuncData} {cdv : Value} {N ps : List Str} {k : Nat} {F : Frm → Res Fl} (Fn : FunC K x st f fd cdv) (S : FnScope N ps (defScope st))
    (body : ∀ (A : Around) (outer : List Env) (s : Shared) (H : Hp) (E : XK), Room k (A.deeper (envOfC x (defScope st) s.heap.objs.size f cdv)) → DSs TS (cxOf (L2N.CX P w) P w K mg base N x (defScope st) f cdv A outer s H E) (defBody st) F) :
    FnOk P w K mg base (L2N.CX P w) (k + 1) f fd ps (spD TS K mg (defM ps.length N.length F)) := by
  obtain ⟨⟨oc, od, kV, doc, pm, an, ct, osl, rfl, lk, hcd⟩, _⟩ := Fn
  refine fn_of lk hcd S (fun vs H Q E h => ?_) (fun A outer s H vs Q E hr h => ?_)
  · obtain ⟨G, ds, r, ok, p⟩ := h
    unfold defM at p
    split at p
    · rename_i e
      rw [r.len, e]
    · exact p.elim
  · obtain ⟨G, ds, r, ok, p⟩ := h
    unfold defM at p
    split at p
    · refine ⟨_, pss_wp _ _, body A outer s H E hr (fun cls d _ H => E cls d H) (frm0 N.length ds) (L2.start N vs) G H G H (fun _ => []) _ (takes_of rfl rfl rfl rfl) (SI.start ok r) ?_⟩
      revert p
      generalize F (frm0 N.length ds) = r_
      intro p
      induction r_ with
      | ok fl =>
        cases fl with
        | next ρ => exact fun σ' G' H' fp' _ s' => p .non G' H' s'.gr .non
        | ret rv =>
          cases rv with
          | val d => exact p
          | own ds => exact p
          | ownU dss => exact p
          | ownM xs d ys => exact p
        | brk ρ => exact p.elim
        | cont ρ => exact p.elim
      | exc c fs =>
        exact fun C d _ G' H' m g r => p C d G' H' m g r
      | bad =>
        exact p.elim
      | alt f_ ih => exact fun i => ih i (p i)
    · exact p.elim
theorem known_ofC {TS : TabList} {P : Program} {w : World} {K : PySem.W.Frag} {mg : Str → Option Value} {base : Heap} {x : Str} {st : Stmt} {cdv : Value} {N ps : List Str} {k : Nat} {F : Frm → Res Fl} (d : DfnC K mg x st ps cdv) (S : FnScope N ps (defScope st))
    (body : ∀ (f : Addr) (A : Around) (outer : List Env) (s : Shared) (H : Hp) (E : XK), Room k (A.deeper (envOfC x (defScope st) s.heap.objs.size f cdv)) → DSs TS (cxOf (L2N.CX P w) P w K mg base N x (defScope st) f cdv A outer s H E) (defBody st) F) :
    Known TS P w K mg base (k + 1) x ps (defM ps.length N.length F) := by
  obtain ⟨f, fd, F1, hm, hb⟩ := d
  exact ⟨f, fd, fnok_mkC F1 S (body f), hm, F1.kp, hb⟩
theorem CtE.gx {X : Cx} {A' : Around} {s : Shared} {H : Hp} {cenv : Env} {fp : List Addr} {pn : List (Addr × Obj)} {k : Nat} (C : CtE X) (hr : Room k A') : CtE (gxX X A' s H cenv fp pn) := ⟨C.calm, C.nd, room_ct hr⟩
def spLawT (K : PySem.W.Frag) (TS : List Addr) : Sp := fun vs H Q _ => ∃ (a : Addr) (ns : List Int), vs = [.ref a] ∧ SqL K H a (ns.map V.int) ∧ ns.length ≤ 63 ∧ (∀ P ∈ TS, H P = some (.tbl #[])) ∧ ∀ H', Q (.bl true) H'
theorem sql_noTb {K : PySem.W.Frag} {H : Hp} {a : Addr} {xs : List V} (h : SqL K H a xs) : SqL K (noTb H) a xs := by
  rcases h with (h | ⟨o, h⟩) | ⟨o, its, n, h, hc, r⟩
  · exact .inl (.inl (noTb_some.mpr ⟨h, rfl⟩))
  · exact .inl (.inr ⟨o, noTb_some.mpr ⟨h, rfl⟩⟩)
  · exact .inr ⟨o, its, n, h, hc, r⟩
end Pyr
set_option Elab.async false
set_option autoImplicit false
set_option linter.all false
set_option maxRecDepth 100000
set_option maxHeartbeats 2000000
namespace Pyr
open PySem PySem.Spec PyProof.Rows L2 Evl
theorem tabIn_of {K : PySem.W.Frag} {x : Str} {f c P : Addr} {oc oc2 : Value} {od od2 : Option Addr} {sl sl2 : Array (Option Value)} {fd : FuncData} {vs : Array Value} (h1 : PySem.W.nsIn K mainGlobals x = some (some (.ref f))) (h2 : K.lookup f = some ⟨oc, od, .func fd, sl⟩) (h3 : fd.code = .ref c)
    (h4 : K.lookup c = some ⟨oc2, od2, .fields vs, sl2⟩) (h5 : vs[11]? = some (.ref P)) : PySem.W.tabIn K x = some (c, P) := by
  simp only [PySem.W.tabIn, h1, h2, h3, h4, h5]
section
variable {TS : TabList} {X : Cx} {a b c : Expr} {fa fb fc : En → Res D} {pos : Pos}
theorem de_gstr {x c : Str} (h : ∃ t, X.mg x = some (.str c t)) (hg : Gl X x) (hd : (x == ("__debug__" : Str)) = false := by decide) : DE TS X (.Name x pos) (eC (.str c)) := by
  obtain ⟨t, h⟩ := h
  exact de_glob (v := .str c) hg h ⟨t, rfl⟩ (fun _ => .str c) hd
theorem de_gint {x : Str} {i : Int} (h : ∃ t, X.mg x = some (.int i t)) (hg : Gl X x) (hd : (x == ("__debug__" : Str)) = false := by decide) : DE TS X (.Name x pos) (eC (.int i)) := by
  obtain ⟨t, h⟩ := h
  exact de_glob (v := .int i) hg h ⟨t, rfl⟩ (fun _ => .int i) hd
theorem gstr_of {K : PySem.W.Frag} {mg : Str → Option Value} {h : Heap} {x c : Str} (X : K.In h) (G : h.Ns mainGlobals mg) (y : ∃ t, PySem.W.nsIn K mainGlobals x = some (some (.str c t))) : ∃ t, mg x = some (.str c t) := by
  obtain ⟨t, y⟩ := y
  exact ⟨t, PySem.W.mg_of X G y⟩
theorem gint_of {K : PySem.W.Frag} {mg : Str → Option Value} {h : Heap} {x : Str} {i : Int} (X : K.In h) (G : h.Ns mainGlobals mg) (y : ∃ t, PySem.W.nsIn K mainGlobals x = some (some (.int i t))) : ∃ t, mg x = some (.int i t) := by
  obtain ⟨t, y⟩ := y
  exact ⟨t, PySem.W.mg_of X G y⟩
def int2D : D → Res D
  | .int i => .ok (.int i)
  | .bool b => .ok (.int (if b then 1 else 0))
  | .str x => match PySem.intText? x with
    | some n => if x.length ≤ 640 then .ok (.int n) else .bad
    | none => .bad
  | _ => .bad
theorem cd_int2 : CallD TS X (.type "int") (oneD int2D) := by
  refine ⟨?_⟩
  intro W σ vs ds G H Q ok rs p
  unfold oneD at p
  split at p
  · obtain ⟨v, rfl, r⟩ := rs.one_inv
    rename_i d
    cases r with
    | int i => exact wpC_of call_int1 (.inl ⟨_, rfl, fin1 ok p (.int _)⟩)
    | bl b => exact wpC_of call_int1 (.inr ⟨_, rfl, fin1 ok p (.int _)⟩)
    | str x =>
      have p : PostG (RelE X.K) TS X W σ G H (match PySem.intText? x with
        | some n => if x.length ≤ 640 then .ok (.int n) else .bad
        | none => .bad) Q := p
      cases e : PySem.intText? x with
      | none =>
        rw [e] at p
        exact p.elim
      | some n =>
        rw [e] at p
        have p : PostG (RelE X.K) TS X W σ G H (if x.length ≤ 640 then .ok (.int n) else .bad) Q := p
        split at p
        · rename_i hl
          exact wpC_of call_int_str ⟨x, n, rfl, e, hl, fin1 ok p (.int _)⟩
        · exact p.elim
    | _ => exact p.elim
  · exact p.elim
end
end Pyr
set_option Elab.async false
set_option autoImplicit false
set_option linter.all false
set_option maxRecDepth 100000
set_option maxHeartbeats 2000000
namespace Pyr
open PySem PySem.Spec PyProof.Rows L2 Evl
theorem gxF_all {t : Tg} {tt : En → Res Bool} {fe : En → Res D} {ρ : En} {p : D → Bool} : ∀ ds : List D, (∀ d ∈ ds, ∃ ρ1, tgE t d ρ = .ok ρ1 ∧ tt ρ1 = .ok true ∧ fe ρ1 = .ok (.bool (p d))) → gxF true t tt fe ρ ds = .ok (.bool (ds.all p))
  | [], _ => rfl
  | d :: ds, h => by
    obtain ⟨ρ1, h1, h2, h3⟩ := h d List.mem_cons_self
    show (tgE t d ρ).bind _ = _
    rw [h1]
    show (noX (tt ρ1)).bind _ = _
    rw [h2]
    show (noX (fe ρ1)).bind _ = _
    rw [h3]
    show (if p d = true then gxF true t tt fe ρ ds else .ok (.bool (p d))) = _
    rw [List.all_cons]
    cases hp : p d with
    | true =>
      rw [if_pos rfl, gxF_all ds fun d hd => h d (List.mem_cons_of_mem _ hd), Bool.true_and]
    | false => rw [if_neg (by decide), Bool.false_and]
theorem in_sign (c : Nat) (y : Str) : inD (.str ⟨#[c]⟩) (.str y) = .ok (.bool (decide (c ∈ y.cps.toList))) := by
  show (if (⟨#[c]⟩ : Str).length = 1 then Res.ok (PyData.bool (decide ((⟨#[c]⟩ : Str).cps.getD 0 0 ∈ y.cps.toList))) else .bad) = _
  rw [if_pos (show (⟨#[c]⟩ : Str).length = 1 from rfl)]
  rfl
theorem gx_signs {i : Nat} {ρ : En} {y : Str} {tt : En → Res Bool} (x : Str) (fe : En → Res D) (ht : ∀ ρ1, tt ρ1 = .ok true) (hf : ∀ c : Nat, fe (ρ.set i (some (.str ⟨#[c]⟩))) = inD (.str ⟨#[c]⟩) (.str y)) : gxF true (.nm i) tt fe ρ (signsD x) = .ok (.bool (x.cps.toList.all fun c => decide (c ∈ y.cps.toList))) := by
  rw [gxF_all (p := fun d => match d with | .str z => decide (z.cps.getD 0 0 ∈ y.cps.toList) | _ => false)]
  · unfold signsD
    rw [List.all_map]
    rfl
  · intro d hd
    unfold signsD at hd
    obtain ⟨c, _, rfl⟩ := List.mem_map.mp hd
    refine ⟨_, rfl, ht _, ?_⟩
    rw [hf, in_sign]
    rfl
theorem tl_len (x : Str) : x.length = x.cps.toList.length := by show x.cps.size = _; simp
theorem len_str {x : Str} (h : x.length ≤ LIM) : lenD (.str x) = .ok (.int x.length) := okL_ok h
theorem modD_int {i j : Int} (h : j ≠ 0) : modD (.int i) (.int j) = .ok (.int (i.fmod j)) := if_pos h
theorem fmod_nat (n : Int) {m : Nat} (hm : 0 < m) : ∃ j : Nat, n.fmod m = j ∧ j < m := ⟨(n.fmod m).toNat, by rw [Int.toNat_of_nonneg (Int.fmod_nonneg_of_pos _ (by omega))], by have := Int.fmod_lt_of_pos n (b := m) (by omega); have := Int.fmod_nonneg_of_pos n (b := m) (by omega); omega⟩
theorem addD_str {x y : Str} (h : x.length + y.length ≤ LIM) : addD (.str x) (.str y) = .ok (.str (x ++ y)) := okL_ok h
end Pyr
set_option Elab.async false
set_option autoImplicit false
set_option linter.all false
set_option maxRecDepth 100000
set_option maxHeartbeats 2000000
namespace Pyr
open PySem PySem.Spec PyProof.Rows L2 Evl
theorem set_any {i : Nat} {fe : En → Res D} {ρ : Frm} {d : D} (h : evP fe ρ = .ok d) : sSet i fe ρ = .ok (.next (ρ.set i (.val d))) := by unfold sSet; rw [h]; rfl
theorem app_any {i : Nat} {fe : En → Res D} {ρ : Frm} {ds : List D} {d : D} (h : ρ[i]? = some (Sl.own (.lst ds))) (he : evP fe ρ = .ok d) (hl : ds.length + 1 ≤ LIM) : sApp i fe ρ = .ok (.next (ρ.set i (.own (.lst (ds ++ [d]))))) := by unfold sApp; rw [h]; show (evP fe ρ).bind _ = _; rw [he]; exact okL_ok hl
theorem put_any {i : Nat} {fj fe : En → Res D} {ρ : Frm} {ds : List D} {d : D} {j : Nat} (h : ρ[i]? = some (Sl.own (.lst ds))) (he : evP fe ρ = .ok d) (hj : evP fj ρ = .ok (.int (j : Int))) (hl : j < ds.length) : sPut i fj fe ρ = .ok (.next (ρ.set i (.own (.lst (ds.set j d))))) := by
  unfold sPut
  rw [h]
  show (evP fe ρ).bind _ = _
  rw [he]
  show (evP fj ρ).bind _ = _
  rw [hj]
  show (match ixN ds.length (j : Int) with
      | some n => Res.ok (Fl.next (ρ.set i (.own (.lst (ds.set n d)))))
      | none => .bad) = _
  have e : ixN ds.length (j : Int) = some j := by
    unfold ixN
    rw [if_pos (by omega), if_pos (by omega)]
    simp
  rw [e]
theorem mulD_r {i j : Int} (h : -(2 ^ 64) < j ∧ j < 2 ^ 64) : mulD (.int i) (.int j) = .ok (.int (i * j)) := if_pos (.inr h)
theorem fdivD_r {i j : Int} (h : j ≠ 0 ∧ j.natAbs < 1073741824) : fdivD (.int i) (.int j) = .ok (.int (i.fdiv j)) := if_pos h
theorem fmod_in (n : Int) {m : Int} (hm : 0 < m) : 0 ≤ n.fmod m ∧ n.fmod m < m := ⟨Int.fmod_nonneg_of_pos _ hm, Int.fmod_lt_of_pos _ hm⟩
theorem e2_ok {g : D → D → Res D} {fa fb : En → Res D} {ρ : En} {x y : D} (ha : fa ρ = .ok x) (hb : fb ρ = .ok y) : e2 g fa fb ρ = g x y := by unfold e2; rw [ha, bind_ok, hb, bind_ok]
theorem one_ok {g : D → Res D} {fa : En → Res D} {ρ : En} {x : D} (ha : fa ρ = .ok x) : eN (oneD g) (aC fa a0) ρ = g x := by unfold eN aC a0; rw [ha]; rfl
theorem iF_ok {g : D → Res (List D)} {fa : En → Res D} {ρ : En} {x : D} (ha : fa ρ = .ok x) : iF g fa ρ = g x := by unfold iF; rw [ha, bind_ok]
theorem tE_ok {g : D → Res Bool} {fa : En → Res D} {ρ : En} {x : D} (ha : fa ρ = .ok x) : tE g fa ρ = g x := by unfold tE; rw [ha, bind_ok]
theorem aC_ok {fa : En → Res D} {fr : En → Res (List D)} {ρ : En} {x : D} {xs : List D} (ha : fa ρ = .ok x) (hr : fr ρ = .ok xs) : aC fa fr ρ = .ok (x :: xs) := by unfold aC; rw [ha, bind_ok, hr]; rfl
theorem eN_ok {g : List D → Res D} {fr : En → Res (List D)} {ρ : En} {xs : List D} (hr : fr ρ = .ok xs) : eN g fr ρ = g xs := by unfold eN; rw [hr, bind_ok]
theorem call_ok {m : List D → Res RV} {fr : En → Res (List D)} {ρ : En} {xs : List D} {r : RV} (hr : fr ρ = .ok xs) (hm : m xs = .ok r) : eCall m fr ρ = .ok r.d := by unfold eCall; rw [hr, bind_ok, hm]; rfl
theorem not_ok {t : En → Res Bool} {ρ : En} {b : Bool} (h : t ρ = .ok b) : tNotR t ρ = .ok (!b) := by unfold tNotR; rw [h, bind_ok]
theorem and_ok {t u : En → Res Bool} {ρ : En} {a b : Bool} (h : t ρ = .ok a) (h2 : a = true → u ρ = .ok b) : tAndR t u ρ = .ok (a && b) := by
  unfold tAndR
  rw [h, bind_ok]
  cases a with
  | true => rw [if_pos rfl, h2 rfl]; rfl
  | false => rfl
theorem or_ok {t u : En → Res Bool} {ρ : En} {a b : Bool} (h : t ρ = .ok a) (h2 : a = false → u ρ = .ok b) : tOrR t u ρ = .ok (a || b) := by
  unfold tOrR
  rw [h, bind_ok]
  cases a with
  | false => rw [if_neg (by decide), h2 rfl]; rfl
  | true => rfl
end Pyr
set_option Elab.async false
set_option autoImplicit false
set_option linter.all false
set_option maxRecDepth 100000
set_option maxHeartbeats 2000000
namespace Com
open PySem PySem.Spec PyProof.Rows L2 Evl Pyr
abbrev eL (f : En → Res (List Pyr.D)) : En → Res Pyr.D := fun ρ => (f ρ).map .list
def B__law_draws_0 : Frm → Res Fl := (sSeq (sSet 5 (eC (.int 0)))
  (sSeq (sIf (tE boolD (e2 gtD (eN (oneD lenD) (aC (eVar 2) a0)) (eC (.int 0)))) (sSeq (sSet 7 (e2 modD (eN (oneD int2D) (aC (eVar 4) a0)) (eN (oneD lenD) (aC (eVar 2) a0))))
  (sIf (tE boolD (e2 geD (e2 atD (eVar 2) (eVar 7)) (e2 powD (eC (.int 10)) (eC (.int 18))))) (sSeq (sSet 5 (e2 modD (eN (oneD int2D) (aC (e2 atD (eVar 2) (eVar 7)) a0)) (eC (.int 1000))))
  (sPut 2 (eVar 7) (e2 fdivD (e2 atD (eVar 2) (eVar 7)) (eC (.int 1000))))) (sSeq (sSet 8 (e2 modD (eN (oneD int2D) (aC (e2 addD (e2 addD (e2 mulD (e2 atD (eVar 2) (eVar 7)) (eC (.int 48271))) (e2 mulD (eVar 4) (eC (.int 69621)))) (eC (.int 11))) a0)) (eC (.int 2147483647))))
  (sSeq (sSet 8 (e2 modD (eN (oneD int2D) (aC (e2 addD (e2 mulD (eVar 8) (eC (.int 16807))) (eVar 7)) a0)) (eC (.int 2147483629))))
  (sSet 5 (e2 modD (eN (oneD int2D) (aC (e2 fdivD (eVar 8) (eC (.int 7))) a0)) (eC (.int 1000)))))))) sNext)
  (sApp 3 (eVar 5))))
def F__law_draws : Frm → Res Fl := (sSeq (sSetL 2 (lComp [6] (Tg.nm 6) (iF walkD (eVar 0)) tYesR (eVar 6)))
  (sSeq (sSetL 3 (lN a0))
  (sSeq (sForR (Tg.nm 4) (iF r1D (eVar 1)) B__law_draws_0)
  (sRetO 3))))
def m__law_draws : List D → Res RV := defM 2 9 F__law_draws
theorem pow18 : powD (.int 10) (.int 18) = .ok (.int 1000000000000000000) := by
  unfold powD
  simp only [show (0 : Int) ≤ 18 ∧ (18 : Int) ≤ 1000000 ∧ (10 : Int).natAbs < 2 ^ 64 by decide, if_true, and_self]
  rfl
abbrev drF (a b : Sl) (R : List Int) (Ds : List Pyr.D) (k : Int) (s5 s7 s8 : Sl) : Frm := [a, b, .own (.lst (R.map .int)), .own (.lst Ds), .val (.int k), s5, .emp, s7, s8]
theorem draw_one (a b : Sl) (R : List Int) (Ds : List Pyr.D) (k : Nat) (s5 s7 s8 : Sl) (hD : Ds.length + 1 ≤ LIM) (hR : R.length ≤ LIM) :
    ∃ R' v s7' s8', B__law_draws_0 (drF a b R Ds k s5 s7 s8) = .ok (.next (drF a b R' (Ds ++ [.int v]) k (.val (.int v)) s7' s8')) ∧ R'.length = R.length ∧ 0 ≤ v ∧ v < 1000 := by
  unfold B__law_draws_0
  rw [seq_ok (set_ok (d := .int 0) rfl)]
  rw [show (drF a b R Ds k s5 s7 s8).set 5 (.val (.int 0)) = drF a b R Ds k (.val (.int 0)) s7 s8 from rfl]
  have t1 : ∀ s5 s7 s8, (tE boolD (e2 gtD (eN (oneD lenD) (aC (eVar 2) a0)) (eC (.int 0)))) (frzE (drF a b R Ds k s5 s7 s8)) = .ok (decide (0 < R.length)) := fun s5 s7 s8 => by
    show Res.ok (decide ((0 : Int) < ((R.map PyData.int).length : Int))) = _
    rw [List.length_map]
    congr 1
    rw [decide_eq_decide]
    omega
  by_cases h0 : 0 < R.length
  · 
    have hk := fmod_nat (k : Int) h0
    obtain ⟨j, ej, hj⟩ := hk
    have hget : (R.map PyData.int)[j]? = some (.int R[j]) := by
      rw [List.getElem?_map, List.getElem?_eq_getElem hj]
      rfl
    have eat : ∀ s5 s8, evP (e2 modD (eN (oneD int2D) (aC (eVar 4) a0)) (eN (oneD lenD) (aC (eVar 2) a0))) (drF a b R Ds k s5 s7 s8) = .ok (.int (j : Int)) := fun s5 s8 => by
      refine evP_frz rfl ?_ rfl
      show modD (.int k) (.int ((R.map PyData.int).length : Int)) = _
      rw [List.length_map, modD_int (by omega), ej]
    have r0 : ∀ s5 s8, (e2 atD (eVar 2) (eVar 7)) (frzE (drF a b R Ds k s5 (.val (.int j)) s8)) = .ok (.int R[j]) := fun s5 s8 => by
      show atD (.list (R.map .int)) (.int (j : Int)) = _
      exact at_list hget
    have t2 : (tE boolD (e2 geD (e2 atD (eVar 2) (eVar 7)) (e2 powD (eC (.int 10)) (eC (.int 18))))) (frzE (drF a b R Ds k (.val (.int 0)) (.val (.int j)) s8)) = .ok (decide (1000000000000000000 ≤ R[j])) := by
      show (((e2 atD (eVar 2) (eVar 7)) (frzE (drF a b R Ds k (.val (.int 0)) (.val (.int j)) s8))).bind fun x => (powD (.int 10) (.int 18)).bind fun y => geD x y).bind boolD = _
      rw [r0, pow18]
      rfl
    by_cases h1 : 1000000000000000000 ≤ R[j]
    · refine ⟨R.set j (R[j].fdiv 1000), R[j].fmod 1000, .val (.int j), s8, ?_, by rw [List.length_set], (fmod_in _ (by decide)).1, (fmod_in _ (by decide)).2⟩
      rw [seq_ok (ρ' := drF a b (R.set j (R[j].fdiv 1000)) Ds k (.val (.int (R[j].fmod 1000))) (.val (.int j)) s8)]
      · rw [app_any (ds := Ds) (d := .int (R[j].fmod 1000)) rfl (evP_ok rfl) hD]
        rfl
      · rw [if_ok (t1 _ _ _), decide_eq_true h0, if_pos rfl, seq_ok (set_any (eat _ _))]
        show sIf _ _ _ (drF a b R Ds k (.val (.int 0)) (.val (.int j)) s8) = _
        rw [if_ok t2, decide_eq_true h1, if_pos rfl]
        rw [seq_ok (set_any (d := .int (R[j].fmod 1000)) ?_)]
        · show sPut _ _ _ (drF a b R Ds k (.val (.int (R[j].fmod 1000))) (.val (.int j)) s8) = _
          rw [put_any (ds := R.map .int) (d := .int (R[j].fdiv 1000)) (j := j) rfl ?_ (evP_ok rfl) (by rw [List.length_map]; exact hj)]
          · rw [show (R.map PyData.int).set j (.int (R[j].fdiv 1000)) = (R.set j (R[j].fdiv 1000)).map PyData.int by rw [List.map_set]]
            rfl
          · refine evP_frz rfl ?_ rfl
            show (((e2 atD (eVar 2) (eVar 7)) (frzE (drF a b R Ds k (.val (.int (R[j].fmod 1000))) (.val (.int j)) s8))).bind fun x => fdivD x (.int 1000)) = _
            rw [r0, bind_ok, fdivD_r (by decide)]
        · refine evP_frz rfl ?_ rfl
          show ((((e2 atD (eVar 2) (eVar 7)) (frzE (drF a b R Ds k (.val (.int 0)) (.val (.int j)) s8))).bind fun x => Res.ok [x]).bind (oneD int2D)).bind (fun x => modD x (.int 1000)) = _
          rw [r0]
          show modD (.int R[j]) (.int 1000) = _
          rw [modD_int (by decide)]
    · refine ⟨R, ((((((R[j] * 48271 + k * 69621 + 11).fmod 2147483647) * 16807 + j).fmod 2147483629).fdiv 7).fmod 1000), .val (.int j), .val (.int ((((R[j] * 48271 + k * 69621 + 11).fmod 2147483647) * 16807 + j).fmod 2147483629)), ?_, rfl, (fmod_in _ (by decide)).1, (fmod_in _ (by decide)).2⟩
      generalize hm1 : (R[j] * 48271 + (k : Int) * 69621 + 11).fmod 2147483647 = m1
      generalize hm2 : (m1 * 16807 + (j : Int)).fmod 2147483629 = m2
      generalize hv : (m2.fdiv 7).fmod 1000 = v
      rw [seq_ok (ρ' := drF a b R Ds k (.val (.int v)) (.val (.int j)) (.val (.int m2)))]
      · rw [app_any (ds := Ds) (d := .int v) rfl (evP_ok rfl) hD]
        rfl
      · rw [if_ok (t1 _ _ _), decide_eq_true h0, if_pos rfl, seq_ok (set_any (eat _ _))]
        show sIf _ _ _ (drF a b R Ds k (.val (.int 0)) (.val (.int j)) s8) = _
        rw [if_ok t2, decide_eq_false h1, if_neg (by decide)]
        rw [seq_ok (set_any (d := .int m1) ?_)]
        · show sSeq _ _ (drF a b R Ds k (.val (.int 0)) (.val (.int j)) (.val (.int m1))) = _
          rw [seq_ok (set_any (d := .int m2) ?_)]
          · show sSet _ _ (drF a b R Ds k (.val (.int 0)) (.val (.int j)) (.val (.int m2))) = _
            rw [set_any (d := .int v) ?_]
            · rfl
            · refine evP_ok ?_
              show ((((fdivD (.int m2) (.int 7)).bind fun x => Res.ok [x]).bind (oneD int2D)).bind fun x => modD x (.int 1000)) = _
              rw [fdivD_r (by decide)]
              show modD (.int (m2.fdiv 7)) (.int 1000) = _
              rw [modD_int (by decide), hv]
          · refine evP_ok ?_
            show (((((mulD (.int m1) (.int 16807)).bind fun x => addD x (.int j)).bind fun x => Res.ok [x]).bind (oneD int2D)).bind fun x => modD x (.int 2147483629)) = _
            rw [mulD_r (by decide)]
            show modD (.int (m1 * 16807 + j)) (.int 2147483629) = _
            rw [modD_int (by decide), hm2]
        · refine evP_frz rfl ?_ rfl
          refine (e2_ok (x := .int (R[j] * 48271 + (k : Int) * 69621 + 11)) (y := .int 2147483647) ?_ rfl).trans ?_
          · refine (one_ok (x := .int (R[j] * 48271 + (k : Int) * 69621 + 11)) ?_).trans rfl
            refine (e2_ok (x := .int (R[j] * 48271 + (k : Int) * 69621)) (y := .int 11) ?_ rfl).trans rfl
            exact (e2_ok ((e2_ok (r0 _ _) rfl).trans (mulD_r (i := R[j]) (j := 48271) (by decide))) ((e2_ok (x := .int k) (y := .int 69621) rfl rfl).trans (mulD_r (by decide)))).trans rfl
          rw [modD_int (by decide), hm1]
  · refine ⟨R, 0, s7, s8, ?_, rfl, by decide, by decide⟩
    rw [seq_ok (ρ' := drF a b R Ds k (.val (.int 0)) s7 s8)]
    · rw [app_any (ds := Ds) (d := .int 0) rfl (evP_ok rfl) hD]
      rfl
    · rw [if_ok (t1 _ _ _), decide_eq_false h0]
      rfl
theorem draw_loop (a b : Sl) : ∀ (n k : Nat) (R : List Int) (Ds : List Pyr.D) (s4 s5 s7 s8 : Sl), Ds.length + n ≤ LIM → R.length ≤ LIM →
    ∃ (R' : List Pyr.D) (vs : List Int) (s4' s5' s7' s8' : Sl), forF (Tg.nm 4) B__law_draws_0 (upto (k : Int) n) [a, b, .own (.lst (R.map .int)), .own (.lst Ds), s4, s5, .emp, s7, s8] = .ok (.next [a, b, .own (.lst R'), .own (.lst (Ds ++ vs.map .int)), s4', s5', .emp, s7', s8']) ∧ vs.length = n ∧ ∀ v ∈ vs, (0 : Int) ≤ v ∧ v < 1000
  | 0, k, R, Ds, s4, s5, s7, s8, _, _ => ⟨_, [], s4, s5, s7, s8, by rw [List.map_nil, List.append_nil]; rfl, rfl, fun _ h => by cases h⟩
  | n + 1, k, R, Ds, s4, s5, s7, s8, hD, hR => by
    obtain ⟨R1, v, s7', s8', e, hl, h1, h2⟩ := draw_one a b R Ds k s5 s7 s8 (by omega) hR
    obtain ⟨R', vs, t4, t5, t7, t8, e2, hn, hv⟩ := draw_loop a b n (k + 1) R1 (Ds ++ [.int v]) (.val (.int k)) (.val (.int v)) s7' s8' (by rw [List.length_append]; simp only [List.length_cons, List.length_nil]; omega) (by omega)
    refine ⟨R', v :: vs, t4, t5, t7, t8, ?_, by rw [List.length_cons, hn], fun z hz => ?_⟩
    · refine (forF_next (ρ1 := drF a b R Ds k s5 s7 s8) rfl e).trans ?_
      rw [List.append_assoc] at e2
      exact e2
    · rcases List.mem_cons.mp hz with rfl | hz
      · exact ⟨h1, h2⟩
      · exact hv z hz
theorem draws_run (xs : List Int) (n : Nat) (hx : xs.length ≤ LIM) (hn : n ≤ LIM) : ∃ vs : List Int, m__law_draws [.list (xs.map .int), .int n] = .ok (.own (vs.map .int)) ∧ vs.length = n ∧ ∀ v ∈ vs, (0 : Int) ≤ v ∧ v < 1000 := by
  unfold m__law_draws
  rw [defM_eq (np := 2) rfl, show frm0 9 [.list (xs.map .int), .int n] = [.val (.list (xs.map .int)), .val (.int n), .emp, .emp, .emp, .emp, .emp, .emp, .emp] from rfl]
  unfold F__law_draws
  rw [seq_ok (setL_ok (d := xs.map .int) ?_), seq_ok (setL_ok (d := []) rfl)]
  · show ∃ vs : List Int, outR (sSeq _ _ [.val (.list (xs.map .int)), .val (.int n), .own (.lst (xs.map .int)), .own (.lst []), .emp, .emp, .emp, .emp, .emp]) = _ ∧ _
    obtain ⟨R', vs, t4, t5, t7, t8, e, h1, h2⟩ := draw_loop (.val (.list (xs.map .int))) (.val (.int n)) n 0 xs [] .emp .emp .emp .emp (by rw [List.length_nil]; omega) hx
    refine ⟨vs, ?_, h1, h2⟩
    rw [seq_ok ((forR_ok (ds := upto 0 n) ((iF_ok (x := .int (n : Int)) rfl).trans (r1D_nat hn)) (upto_flat _ _)).trans e)]
    rfl
  · show okL (xs.map PyData.int).length (compF (Tg.nm 6) tYesR (eVar 6) _ (xs.map PyData.int)) = _
    rw [okL_ok (by rw [List.length_map]; exact hx), compF_map (g := fun d => d)]
    · rw [List.map_id']
    · intro d hd
      obtain ⟨z, _, rfl⟩ := List.mem_map.mp hd
      exact ⟨_, rfl, rfl, rfl⟩
end Com
set_option Elab.async false
set_option autoImplicit false
set_option linter.all false
set_option maxRecDepth 100000
set_option maxHeartbeats 2000000
namespace Pyr
open PySem PySem.Spec PyProof.Rows L2 Evl
def sSetT (t : Tg) (fe : En → Res D) : Frm → Res Fl := fun ρ => (evP fe ρ).bind fun d => (tgF t d ρ).bind fun ρ' => .ok (.next ρ')
theorem ds_setT {TS : TabList} {X : Cx} {e tg : Expr} {fe : En → Res D} {pos : Pos} {t : Tg} (he : DE TS X e fe) (hg : PG X tg (gTg X.K t)) (hs : swapsWithSole [tg] e pos.line X.env = pure false := by rfl) (hw : swappedStores [tg] e X.env = pure none := by rfl)
    (h1 : (assignEach [tg] X.env).map (·.2) = [assign tg X.env] := by rfl) : DSt TS X (.Assign [tg] e pos) (sSetT t fe) := by
  refine ⟨?_⟩
  intro W ρ σ G_0 H_0 G H fp D tk s p
  refine wpSt_of (ps_asg (pe_wp X e) hg hs hw h1) ?_
  refine evP_run he tk s p fun v d G1 H1 g r p => ?_
  cases e1 : tgF t d ρ with
  | exc c fs => exact (tgF_exc e1).elim
  | bad =>
    rw [e1] at p
    exact p.elim
  | ok ρ' =>
    rw [e1] at p
    exact gTgF_ok r (s.grow g) e1 fun σ' s' => p σ' G1 H1 fp g.g s'
  | alt f => exact (tgF_alt e1).elim
section
variable {TS : TabList} {X : Cx}
def isBD : D → D → Res D
  | .bool a, .bool b => .ok (.bool (decide (a = b)))
  | x, .none => isND x .none
  | _, _ => .bad
def notBD (x y : D) : Res D := (isBD x y).bind fun b => match b with
  | .bool b => .ok (.bool (!b))
  | _ => .bad
theorem od_isB : OpD TS X (compareOp .Is) isBD := by
  refine ⟨?_⟩
  intro W σ v u x y G H Q ok rx ry p
  cases ry with
  | non => cases rx <;> exact wpO_of op_isN ⟨rfl, fin1 ok p (.bl _)⟩
  | bl b =>
    cases rx with
    | bl a => exact wpO_of op_is_bl ⟨_, _, rfl, rfl, fin1 ok p (.bl _)⟩
    | _ => exact p.elim
  | _ => cases rx <;> exact p.elim
theorem od_notB : OpD TS X (compareOp .IsNot) notBD := by
  refine ⟨?_⟩
  intro W σ v u x y G H Q ok rx ry p
  cases ry with
  | non => cases rx <;> exact wpO_of op_notN ⟨rfl, fin1 ok p (.bl _)⟩
  | bl b =>
    cases rx with
    | bl a => exact wpO_of op_isnot_bl ⟨_, _, rfl, rfl, fin1 ok p (.bl _)⟩
    | _ => exact p.elim
  | _ => cases rx <;> exact p.elim
def alikeB (ds : List D) : Bool := ds.all fun d => ds.all fun d' => PySem.W.alike d d'
def tupB : D → Bool
  | .tuple (_ :: _) => true
  | _ => false
def notTupB : D → Bool
  | .tuple _ => false
  | .none => false
  | _ => true
def sortableB (ds : List D) : Bool := ds.all tupB || ds.all notTupB
def sortC (ds : List D) : Bool := alikeB ds && sortableB ds && ds.all (fun d => flatD d && decide (d.depth ≤ 12)) && decide (ds.length ≤ LIM)
def sortL : D → Res (List D)
  | .list ds => if sortC ds then .ok (ds.mergeSort (PySem.W.dataLe false id)) else .bad
  | _ => .bad
theorem alike_of {ds : List D} (h : alikeB ds = true) : PySem.W.AllAlike ds := fun d hd d' hd' => List.all_eq_true.mp (List.all_eq_true.mp h d hd) d' hd'
theorem sortable_of {ds : List D} (h : sortableB ds = true) : PySem.W.Sortable ds := by
  unfold sortableB at h
  rw [Bool.or_eq_true] at h
  rcases h with h | h
  · refine .inl fun d hd => ?_
    have := List.all_eq_true.mp h d hd
    unfold tupB at this
    split at this
    · exact ⟨_, _, rfl⟩
    · cases this
  · refine .inr fun d hd => ?_
    have := List.all_eq_true.mp h d hd
    refine ⟨fun e => ?_, fun xs e => ?_⟩ <;> subst e <;> cases this
def RVD (K : PySem.W.Frag) (G : Hp) (u : Value) (d : D) : Prop := ∃ v : V, RelV v u ∧ Rp K G v d
theorem each_rvd {K : PySem.W.Frag} {G : Hp} : ∀ {vs : List V} {us : List Value} {ds : List D}, Vals vs us → Rps K G vs ds → PySem.W.EachIs (RVD K G) us ds
  | _, _, _, .nil, .nil => .nil
  | _, _, _, .cons r rs, .cons h hs => .cons ⟨_, r, h⟩ (each_rvd rs hs)
theorem rvd_each {K : PySem.W.Frag} {G : Hp} : ∀ {us : List Value} {ds : List D}, PySem.W.EachIs (RVD K G) us ds → ∃ vs : List V, Vals vs us ∧ Rps K G vs ds
  | _, _, .nil => ⟨[], .nil, .nil⟩
  | _, _, .cons ⟨v, r, h⟩ hs => by
    obtain ⟨vs, a, b⟩ := rvd_each hs
    exact ⟨v :: vs, .cons r a, .cons h b⟩
theorem cl_sorted (C : CtE X) : CallL TS X (.builtin "sorted") (oneL sortL) := by
  refine ⟨?_⟩
  intro W σ vs ds G H Q ok rs p
  unfold oneL at p
  split at p
  · obtain ⟨v, rfl, r⟩ := rs.one_inv
    rename_i d
    cases d with
    | list ds =>
      have p : PostG (RelL X.K) TS X W σ G H (if sortC ds then .ok (ds.mergeSort (PySem.W.dataLe false id)) else .bad) Q := p
      split at p
      · rename_i hc
        unfold sortC at hc
        simp only [Bool.and_eq_true, decide_eq_true_eq] at hc
        obtain ⟨⟨⟨h1, h2⟩, h3⟩, h4⟩ := hc
        obtain ⟨q, xs, rfl, hq, r⟩ := r.list_inv
        have hq' := ex_l ok.le hq
        intro pins s σ us I rv
        obtain ⟨its, rI, hl, _⟩ := I.list hq'
        rw [Vals.ref1 rv]
        have e1 := each_rvd rI r
        have er : PySem.W.EachIs (fun u d => ∃ as, Reads s.heap u (id d) as) its ds := (PySem.W.each_mem e1).mono fun u d ⟨⟨v, r1, r2⟩, hb⟩ => by
          have := List.all_eq_true.mp h3 d hb
          rw [Bool.and_eq_true] at this
          exact Dp.reads I d v u ((r2.mono ok.le).dp this.1) r1
        refine PySem.W.sorted_data (enc := id) (R := RVD X.K G) hl.isList e1 er (by rw [List.map_id]; exact alike_of h1) (by rw [List.map_id]; exact sortable_of h2) (lim_line h4) (fun d hd => ?_) fun out ho hO => ?_
        · have := List.all_eq_true.mp h3 d hd
          rw [Bool.and_eq_true] at this
          have h5 := of_decide_eq_true this.2
          have h6 := C.un
          show _ + 2 + d.depth < _
          omega
        · obtain ⟨ws, rw', rp⟩ := rvd_each hO
          obtain ⟨ep, he'⟩ := PyProof.Rows.sortedAll_at s.heap its (List.toArray out)
          have hlen : ws.length ≤ sizeLine := by
            rw [rw'.length, ho]
            exact lim_line h4
          have hf := I.hok.fresh (Nat.le_succ s.heap.objs.size)
          have g := Gr.own (o := .lst ws) ok hf
          exact ⟨.ref _, upd H (s.heap.objs.size + 1) (.lst ws), I.laid (t' := s.toks) (fun _ _ => PyProof.Rows.sortedAll_old) (Nat.le_succ _) ⟨hlen, out, ep, rw', he'⟩, rfl, p _ G _ g ⟨_, ws, rfl, hf, fresh_back ok.le hf, upd_same, rp⟩⟩
      · exact p.elim
    | _ => exact p.elim
  · exact p.elim
end
end Pyr
set_option Elab.async false
set_option autoImplicit false
set_option linter.all false
set_option maxRecDepth 100000
set_option maxHeartbeats 2000000
namespace Pyr
open PySem PySem.Spec PyProof.Rows L2 Evl
abbrev veM : List Value := [.type "ValueError", .type "Exception", .type "BaseException", .type "object"]
structure ExcC (K : PySem.W.Frag) (mg : Str → Option Value) (x : Str) (C : Addr) : Prop where
  is : PySem.W.excIn K C veM "ValueError.__new__" = true
  at_ : mg x = some (.ref C)
  kp : PySem.W.keepIn K (.ref C) = true
  sub : PySem.W.subIn K (.ref C) (.type "BaseException") = some true
  ty : PySem.W.typeIn K (.ref C) = some (.type "type")
section
variable {TS : TabList} {X : Cx} {C : Addr} {x : Str}
theorem pmk_own0 {p pos : Pos} (e : ExcC X.K X.mg x C) (hg : Gl X x) (hdb : (x == ("__debug__" : Str)) = false := by decide) : L2N.PMk X (.Call (.Name x p) [] [] pos) (fun _ H Q => Q (.ref C) none H) := by
  intro pins s σ H Q I h
  refine wpAny_Call_Name_kw (ld_glob I hg e.at_ ?_ hdb)
  refine PySem.W.callWith_K0 I.kIn e.kp ?_
  show wpAny _ _ (call (.ref C) []) _ _ _
  obtain ⟨bm, N, nm, qn, bs, hdct, sn, sub, ab, col, dd, k0, k1, k2, k3, k5, mN, hC, hN, hni, T⟩ := exc_obj I.kIn e.is
  refine wpAny_call_exc_subT _root_.PySem.F.excBase_ValueError T hC hN hni (fun h' a hm => ?_) (by show 0 ≤ sizeLine; rw [sizeLine_eq]; omega)
  exact L2N.mk_of I hm (raises_own e.sub e.ty) h (I.hok.gone hm.new)
def sRaise (c : Str) : Frm → Res Fl := fun _ => .exc c []
theorem ds_raise0 {p pos pos2 : Pos} (Ct : CtE X) (e : ∃ C, ExcC X.K X.mg x C) (hg : Gl X x) (hdb : (x == ("__debug__" : Str)) = false := by decide) : DSt TS X (.Raise (some (.Call (.Name x p) [] [] pos)) none pos2) (sRaise x) := by
  obtain ⟨C, e⟩ := e
  refine ⟨?_⟩
  intro W ρ σ G_0 H_0 G H fp D tk s p
  exact wpSt_of (L2N.ps_raise Ct.calm tk (pmk_own0 e hg hdb)) (p C none σ G H e.at_ s.gr rfl)
end
end Pyr
set_option Elab.async false
set_option autoImplicit false
set_option linter.all false
set_option maxRecDepth 100000
set_option maxHeartbeats 2000000
namespace Pyr
open PySem PySem.Spec PyProof.Rows L2 Evl
def repS (x : Str) (n : Nat) : Str := ⟨(List.replicate n x.cps.toList).flatten.toArray⟩
theorem fold_arr (a : Array Nat) : ∀ (n : Nat) (b : Array Nat), ((List.replicate n a).foldl (· ++ ·) b).toList = b.toList ++ (List.replicate n a.toList).flatten
  | 0, b => by simp
  | n + 1, b => by
    rw [List.replicate_succ, List.foldl_cons, fold_arr a n, List.replicate_succ, List.flatten_cons, Array.toList_append, List.append_assoc]
theorem txt_mul (x : Str) (n : Int) : Txt.mul x n = repS x n.toNat := by
  unfold Txt.mul
  by_cases h : n < 1
  · rw [if_pos h]
    have : n.toNat = 0 := by omega
    rw [this]
    rfl
  · rw [if_neg h]
    by_cases h2 : (n == 1 || x.length == 0) = true
    · rw [if_pos h2]
      apply TL.ext_tl
      show x.cps.toList = (List.replicate n.toNat x.cps.toList).flatten
      rw [Bool.or_eq_true] at h2
      rcases h2 with h2 | h2
      · have : n.toNat = 1 := by
          have := eq_of_beq h2
          omega
        rw [this]
        simp
      · have h3 : x.cps.size = 0 := eq_of_beq h2
        have h4 : x.cps.toList = [] := by
          have : x.cps.toList.length = 0 := by simpa using h3
          exact List.eq_nil_of_length_eq_zero this
        rw [h4]
        simp
    · rw [if_neg h2]
      apply TL.ext_tl
      show ((List.replicate n.toNat x.cps).foldl (· ++ ·) #[]).toList = _
      rw [fold_arr]
      rfl
section
variable {TS : TabList} {X : Cx}
theorem op_mul_str : OpR X (binaryOp .Mult) (fun x y H Q => ∃ i n, x = .str i ∧ y = .int n ∧ n.natAbs ≤ LIM ∧ i.length * n.toNat ≤ LIM ∧ Q (.str (repS i n.toNat)) H) := by
  intro pins s σ H x y v u Q I rx ry h
  obtain ⟨i, n, rfl, rfl, h1, h2, q⟩ := h
  obtain ⟨t, rfl⟩ := rx
  obtain ⟨t', rfl⟩ := ry
  have h1 : n.natAbs ≤ 100000 := h1
  have h2 : i.length * n.toNat ≤ 100000 := h2
  refine PySem.SB.mul ⟨?_, ?_, ?_⟩ fun t' k => ?_
  · rw [decide_eq_false (by omega), decide_eq_false (by omega)]
    rfl
  · intro a b hh
    have hn : 0 < n := by omega
    have := (Int.ediv_lt_iff_lt_mul hn).mp hh
    have e : ((i.length * n.toNat : Nat) : Int) = (i.length : Int) * n := by
      rw [Int.natCast_mul, Int.toNat_of_nonneg (by omega)]
    omega
  · intro _ _
    have : i.length * n.toNat ≤ sizeLine := Nat.le_trans h2 (by decide)
    exact decide_eq_false (by
      have e : sizeLine ≤ 2 ^ 63 - 1 - 64 := by decide
      omega)
  · rw [txt_mul]
    exact ⟨.str (repS i n.toNat), H, I.tok _, ⟨_, rfl⟩, q⟩
def mul2D : D → D → Res D
  | .str x, .int n => if n.natAbs ≤ LIM ∧ x.length * n.toNat ≤ LIM then .ok (.str (repS x n.toNat)) else .bad
  | .int i, .int j => mulD (.int i) (.int j)
  | _, _ => .bad
theorem od_mul2 : OpD TS X (binaryOp .Mult) mul2D := by
  refine ⟨?_⟩
  intro W σ v u x y G H Q ok rx ry p
  unfold mul2D at p
  split at p
  · cases rx
    cases ry
    split at p
    · rename_i h
      exact wpO_of op_mul_str ⟨_, _, rfl, rfl, h.1, h.2, fin1 ok p (.str _)⟩
    · exact p.elim
  · exact od_mul W σ v u _ _ G H Q ok rx ry p
  · exact p.elim
variable {a : Expr} {fa : En → Res D} {es rest : List Expr} {fr : En → Res Str} {pos : Pos}
abbrev RelS : Hp → Hp → Hp → Str → Str → Prop := fun _ _ _ v b => v = b
structure DJ (TS : TabList) (X : Cx) (es : List Expr) (f : En → Res Str) : Prop where
  run : ∀ (W : WX) (ρ : En) (σ : L2.St) (acc : Str) (G H : Hp) (Q : Str → Hp → Prop), Takes X W → RpE TS X.K G H ρ σ → Ok0 TS G H → PostG RelS TS X W σ G H ((f ρ).bind fun y => okL (acc ++ y).length (.ok (acc ++ y))) Q → tJs (es.map (wpE X)) acc σ H Q
def jC (fa : En → Res D) (fr : En → Res Str) : En → Res Str := fun ρ => (fa ρ).bind fun x => match x, fr ρ with
  | .str y, .ok r => .ok (y ++ r)
  | _, _ => .bad
def j0 : En → Res Str := fun _ => .ok Str.empty
theorem tl_app (x y : Str) : (x ++ y).cps.toList = x.cps.toList ++ y.cps.toList := by rw [Str.cps_append, Array.toList_append]
theorem app_len (x y : Str) : (x ++ y).length = x.length + y.length := by simp only [tl_len, tl_app, List.length_append]
def eFs (fr : En → Res Str) : En → Res D := fun ρ => (fr ρ).bind fun y => okL y.length (.ok (.str y))
end
end Pyr
set_option Elab.async false
set_option autoImplicit false
set_option linter.all false
set_option maxRecDepth 100000
set_option maxHeartbeats 2000000
namespace Pyr
open PySem PySem.Spec PyProof.Rows L2 Evl
theorem run_mul {i j : Int} (h : -1099511627776 < j ∧ j < 1099511627776) : mul2D (.int i) (.int j) = .ok (.int (i * j)) := if_pos (.inr ⟨by omega, by omega⟩)
theorem run_mulS {x : Str} {n : Int} (h : n.natAbs ≤ 100000 ∧ x.length * n.toNat ≤ 100000) : mul2D (.str x) (.int n) = .ok (.str (repS x n.toNat)) := if_pos h
theorem run_add {i j : Int} : addD (.int i) (.int j) = .ok (.int (i + j)) := rfl
theorem run_sub {i j : Int} : subD (.int i) (.int j) = .ok (.int (i - j)) := rfl
theorem run_addS {x y : Str} (h : x.length + y.length ≤ 100000) : addD (.str x) (.str y) = .ok (.str (x ++ y)) := okL_ok h
theorem run_mod {i j : Int} (h : j ≠ 0) : modD (.int i) (.int j) = .ok (.int (i.fmod j)) := if_pos h
theorem run_fdiv {i j : Int} (h : j ≠ 0 ∧ j.natAbs < 1073741824) : fdivD (.int i) (.int j) = .ok (.int (i.fdiv j)) := if_pos h
theorem run_lt {i j : Int} : ltD (.int i) (.int j) = .ok (.bool (decide (i < j))) := rfl
theorem run_le {i j : Int} : leD (.int i) (.int j) = .ok (.bool (decide (i ≤ j))) := rfl
theorem run_gt {i j : Int} : gtD (.int i) (.int j) = .ok (.bool (decide (j < i))) := rfl
theorem run_ge {i j : Int} : geD (.int i) (.int j) = .ok (.bool (decide (j ≤ i))) := rfl
theorem run_lenL {ds : List D} : lenD (.list ds) = .ok (.int ds.length) := rfl
theorem run_lenT {ds : List D} : lenD (.tuple ds) = .ok (.int ds.length) := rfl
theorem run_okL {α : Type} {n : Nat} {r : Res α} (h : n ≤ 100000) : okL n r = r := okL_ok h
theorem run_lenS {x : Str} (h : x.length ≤ 100000) : lenD (.str x) = .ok (.int x.length) := okL_ok h
theorem run_int {i : Int} : int2D (.int i) = .ok (.int i) := rfl
theorem run_bool {b : Bool} : boolD (.bool b) = .ok b := rfl
theorem run_truB {b : Bool} : truD (.bool b) = .ok b := rfl
theorem run_truL {ds : List D} : truD (.list ds) = .ok (!ds.isEmpty) := rfl
def purS : Sl → Option D
  | .val d => some d
  | .own (.lst ds) => some (loD ds)
  | .own (.set ds) => some (stD ds)
  | .own (.tup _) => none
  | .own (.dic _) => none
  | .own (.dil _ _) => none
  | .own (.mix _ _ _) => none
  | .own .strm => some (stD [.bool false])
  | .own (.exc c) => some (exD c)
  | .emp => none
def frzS : Sl → Option D
  | .val d => some d
  | .own o => o.d
  | .emp => none
theorem run_pur1 {x : Sl} {ρ : Frm} : purE (x :: ρ) = purS x :: purE ρ := by
  cases x with
  | own o => cases o <;> rfl
  | _ => rfl
theorem run_frz1 {x : Sl} {ρ : Frm} : frzE (x :: ρ) = frzS x :: frzE ρ := rfl
theorem run_pSv {d : D} : purS (.val d) = some d := rfl
theorem run_pSo {ds : List D} : purS (.own (.lst ds)) = some (loD ds) := rfl
theorem run_pSe : purS .emp = none := rfl
theorem run_fSv {d : D} : frzS (.val d) = some d := rfl
theorem run_fSo {ds : List D} : frzS (.own (.lst ds)) = some (.list ds) := rfl
theorem run_fSe : frzS .emp = none := rfl
theorem run_pur0 : purE [] = [] := rfl
theorem run_frz0 : frzE [] = [] := rfl
theorem run_v0 {d : D} {ρ : En} (h : isLo d = false) : eVar 0 (some d :: ρ) = .ok d := by
  show (if isLo d = true then Res.bad else .ok d) = _
  rw [h]
  rfl
theorem run_v0n {ρ : En} : eVar 0 (some PyData.none :: ρ) = .ok .none := rfl
theorem run_v0b {b : Bool} {ρ : En} : eVar 0 (some (.bool b) :: ρ) = .ok (.bool b) := rfl
theorem run_v0i {i : Int} {ρ : En} : eVar 0 (some (.int i) :: ρ) = .ok (.int i) := rfl
theorem run_v0s {x : Str} {ρ : En} : eVar 0 (some (.str x) :: ρ) = .ok (.str x) := rfl
theorem run_v0l {ds : List D} {ρ : En} : eVar 0 (some (.list ds) :: ρ) = .ok (.list ds) := rfl
theorem run_v0t {ds : List D} {ρ : En} : eVar 0 (some (.tuple ds) :: ρ) = .ok (.tuple ds) := rfl
theorem run_v0o {ds : List D} {ρ : En} : eVar 0 (some (loD ds) :: ρ) = .bad := rfl
theorem run_vN {ρ : En} : eVar 0 (none :: ρ) = .bad := rfl
theorem run_vS {i : Nat} {x : Option D} {ρ : En} : eVar (i + 1) (x :: ρ) = eVar i ρ := rfl
theorem run_bad {α β : Type} {k : α → Res β} : (Res.bad : Res α).bind k = .bad := rfl
theorem run_exc {α β : Type} {c : Str} {fs : List (Str × D)} {k : α → Res β} : (Res.exc c fs : Res α).bind k = .exc c fs := rfl
theorem run_map {α β : Type} {f : α → β} {a : α} : (Res.ok a).map f = .ok (f a) := rfl
theorem isi_str_n : isiD "str" (PyData.none) = .ok (.bool false) := rfl
theorem isi_str_b {b : Bool} : isiD "str" (.bool b) = .ok (.bool false) := rfl
theorem isi_str_i {i : Int} : isiD "str" (.int i) = .ok (.bool false) := rfl
theorem isi_str_s {s : Str} : isiD "str" (.str s) = .ok (.bool true) := rfl
theorem isi_str_l {l : List D} : isiD "str" (.list l) = .ok (.bool false) := rfl
theorem isi_str_t {t : List D} : isiD "str" (.tuple t) = .ok (.bool false) := rfl
theorem isi_str_d {d : List (D × D)} : isiD "str" (.dict d) = .ok (.bool false) := by cases h : ptB d <;> simp only [isiD, isiB, tyN, h] <;> rfl
theorem isi_int_n : isiD "int" (PyData.none) = .ok (.bool false) := rfl
theorem isi_int_b {b : Bool} : isiD "int" (.bool b) = .ok (.bool true) := rfl
theorem isi_int_i {i : Int} : isiD "int" (.int i) = .ok (.bool true) := rfl
theorem isi_int_s {s : Str} : isiD "int" (.str s) = .ok (.bool false) := rfl
theorem isi_int_l {l : List D} : isiD "int" (.list l) = .ok (.bool false) := rfl
theorem isi_int_t {t : List D} : isiD "int" (.tuple t) = .ok (.bool false) := rfl
theorem isi_int_d {d : List (D × D)} : isiD "int" (.dict d) = .ok (.bool false) := by cases h : ptB d <;> simp only [isiD, isiB, tyN, h] <;> rfl
theorem isi_bool_n : isiD "bool" (PyData.none) = .ok (.bool false) := rfl
theorem isi_bool_b {b : Bool} : isiD "bool" (.bool b) = .ok (.bool true) := rfl
theorem isi_bool_i {i : Int} : isiD "bool" (.int i) = .ok (.bool false) := rfl
theorem isi_bool_s {s : Str} : isiD "bool" (.str s) = .ok (.bool false) := rfl
theorem isi_bool_l {l : List D} : isiD "bool" (.list l) = .ok (.bool false) := rfl
theorem isi_bool_t {t : List D} : isiD "bool" (.tuple t) = .ok (.bool false) := rfl
theorem isi_bool_d {d : List (D × D)} : isiD "bool" (.dict d) = .ok (.bool false) := by cases h : ptB d <;> simp only [isiD, isiB, tyN, h] <;> rfl
theorem isi_list_n : isiD "list" (PyData.none) = .ok (.bool false) := rfl
theorem isi_list_b {b : Bool} : isiD "list" (.bool b) = .ok (.bool false) := rfl
theorem isi_list_i {i : Int} : isiD "list" (.int i) = .ok (.bool false) := rfl
theorem isi_list_s {s : Str} : isiD "list" (.str s) = .ok (.bool false) := rfl
theorem isi_list_l {l : List D} : isiD "list" (.list l) = .ok (.bool true) := rfl
theorem isi_list_t {t : List D} : isiD "list" (.tuple t) = .ok (.bool false) := rfl
theorem isi_list_d {d : List (D × D)} : isiD "list" (.dict d) = .ok (.bool false) := by cases h : ptB d <;> simp only [isiD, isiB, tyN, h] <;> rfl
theorem isi_tuple_n : isiD "tuple" (PyData.none) = .ok (.bool false) := rfl
theorem isi_tuple_b {b : Bool} : isiD "tuple" (.bool b) = .ok (.bool false) := rfl
theorem isi_tuple_i {i : Int} : isiD "tuple" (.int i) = .ok (.bool false) := rfl
theorem isi_tuple_s {s : Str} : isiD "tuple" (.str s) = .ok (.bool false) := rfl
theorem isi_tuple_l {l : List D} : isiD "tuple" (.list l) = .ok (.bool false) := rfl
theorem isi_tuple_t {t : List D} : isiD "tuple" (.tuple t) = .ok (.bool true) := rfl
theorem isi_tuple_d {d : List (D × D)} (h : ptB d = false) : isiD "tuple" (.dict d) = .ok (.bool false) := by simp only [isiD, isiB, tyN, h]; rfl
theorem isi_dict_n : isiD "dict" (PyData.none) = .ok (.bool false) := rfl
theorem isi_dict_b {b : Bool} : isiD "dict" (.bool b) = .ok (.bool false) := rfl
theorem isi_dict_i {i : Int} : isiD "dict" (.int i) = .ok (.bool false) := rfl
theorem isi_dict_s {s : Str} : isiD "dict" (.str s) = .ok (.bool false) := rfl
theorem isi_dict_l {l : List D} : isiD "dict" (.list l) = .ok (.bool false) := rfl
theorem isi_dict_t {t : List D} : isiD "dict" (.tuple t) = .ok (.bool false) := rfl
theorem isi_dict_d {d : List (D × D)} (h : ptB d = false) : isiD "dict" (.dict d) = .ok (.bool true) := by simp only [isiD, isiB, tyN, h]; rfl
theorem run_atT0 {a : D} {l : List D} : atD (.tuple (a :: l)) (.int 0) = .ok a := at_tup (k := 0) rfl
theorem run_atT1 {a b : D} {l : List D} : atD (.tuple (a :: b :: l)) (.int 1) = .ok b := at_tup (k := 1) rfl
theorem run_atT2 {a b c : D} {l : List D} : atD (.tuple (a :: b :: c :: l)) (.int 2) = .ok c := at_tup (k := 2) rfl
theorem run_atT3 {a b c d : D} {l : List D} : atD (.tuple (a :: b :: c :: d :: l)) (.int 3) = .ok d := at_tup (k := 3) rfl
theorem run_atT4 {a b c d e : D} {l : List D} : atD (.tuple (a :: b :: c :: d :: e :: l)) (.int 4) = .ok e := at_tup (k := 4) rfl
theorem run_atL0 {a : D} {l : List D} : atD (.list (a :: l)) (.int 0) = .ok a := at_list (k := 0) rfl
theorem run_atL1 {a b : D} {l : List D} : atD (.list (a :: b :: l)) (.int 1) = .ok b := at_list (k := 1) rfl
theorem run_atL2 {a b c : D} {l : List D} : atD (.list (a :: b :: c :: l)) (.int 2) = .ok c := at_list (k := 2) rfl
theorem run_atL3 {a b c d : D} {l : List D} : atD (.list (a :: b :: c :: d :: l)) (.int 3) = .ok d := at_list (k := 3) rfl
theorem run_atL4 {a b c d e : D} {l : List D} : atD (.list (a :: b :: c :: d :: e :: l)) (.int 4) = .ok e := at_list (k := 4) rfl
end Pyr
set_option Elab.async false
set_option autoImplicit false
set_option linter.all false
set_option maxRecDepth 100000
set_option maxHeartbeats 2000000
namespace Pyr
open PySem PySem.Spec PyProof.Rows L2 Evl
section
variable {TS : TabList} {X : Cx} {W : WX} {c : Expr} {ft : En → Res Bool} {F : Frm → Res Fl} {body : List Stmt} {pos : Pos}
end
mutual
inductive Tr where
  | nm (i : Nat)
  | tp (ts : Trs)
inductive Trs where
  | nil
  | cons (t : Tr) (ts : Trs)
end
def Trs.len : Trs → Nat
  | .nil => 0
  | .cons _ ts => ts.len + 1
mutual
def trF : Tr → D → Frm → Res Frm
  | .nm i, d, ρ => .ok (ρ.set i (.val d))
  | .tp ts, d, ρ => match d with
    | .tuple ds => if ds.length = ts.len then trsF ts ds ρ else .bad
    | _ => .bad
def trsF : Trs → List D → Frm → Res Frm
  | .nil, _, ρ => .ok ρ
  | .cons t ts, ds, ρ => match ds with
    | d :: ds => (trF t d ρ).bind fun ρ1 => trsF ts ds ρ1
    | [] => .bad
end
section
variable {TS : TabList} {K : PySem.W.Frag} {G_0 H_0 G H : Hp} {fp : Nat → List Addr}
end
def sPop (i : Nat) (t : Tr) : Frm → Res Fl := fun ρ => match ρ[i]? with
  | some (Sl.own (.lst ds)) => match ds.getLast? with
    | some d => match trF t d (ρ.set i (.own (.lst ds.dropLast))) with
      | .ok ρ' => .ok (.next ρ')
      | _ => .bad
    | none => .bad
  | _ => .bad
section
variable {TS : TabList} {X : Cx} {W : WX} {pos : Pos} {tg : Expr} {t : Tr}
end
end Pyr
set_option Elab.async false
set_option autoImplicit false
set_option linter.all false
set_option maxRecDepth 100000
set_option maxHeartbeats 4000000
namespace Pyr
open PySem PySem.Spec PyProof.Rows L2 Evl
section
variable {prog : Program} {w : World} {A : Around} {E : Value → Shared → Prop} {s : Shared}
theorem adj_back (n : Nat) : Builtin.Slice.sliceAdjust none none (-1) (n : Int) = ((n : Int) - 1, -1) := by
  unfold Builtin.Slice.sliceAdjust
  rfl
theorem plc_back (n : Nat) : Builtin.Slice.slicePlaces ((n : Int) - 1) (-1) (-1) = n := by
  unfold Builtin.Slice.slicePlaces
  rw [if_neg (by decide)]
  have e : -(-1 : Int) = 1 := by decide
  simp only [e, Int.ediv_one]
  split <;> omega
theorem app_back {b : Addr} {vl vu vs : Value} {n : Nat} {Q : Int × Int × Nat → Shared → Prop} (z : s.heap.IsSliceOf b vl vu vs) (pl : IsPart vl none) (pu : IsPart vu none) (ps : IsPart vs (some (-1)))
    (q : Q ((n : Int) - 1, -1, n) s) : wpAny (model prog w) A (Builtin.Slice.sliceApplied (.ref b) (pure (n : Int))) Q E s := by
  obtain ⟨ob, h1, h2, h3⟩ := id z
  unfold Builtin.Slice.sliceApplied Builtin.Slice.sliceFields
  refine wpAny_bind (wpAny_bind (wpAny_field h1 h3 (x := vl) rfl ?_))
  refine wpAny_bind (wpAny_field h1 h3 (x := vu) rfl ?_)
  refine wpAny_bind (wpAny_field h1 h3 (x := vs) rfl (wpAny_pure ?_))
  refine wpAny_bind (HT.slicePart_ ps ?_)
  show wpAny _ _ (if ((-1 : Int) == 0) = true then _ else _) _ _ s
  rw [if_neg (by decide)]
  refine wpAny_bind (HT.slicePart_ pl ?_)
  refine wpAny_bind (HT.slicePart_ pu ?_)
  refine wpAny_bind (wpAny_pure ?_)
  show wpAny _ _ (match Builtin.Slice.sliceAdjust none none (-1) (n : Int) with | (lo, hi) => pure (lo, (-1 : Int), Builtin.Slice.slicePlaces lo hi (-1))) _ _ s
  rw [adj_back]
  show wpAny _ _ (pure ((n : Int) - 1, (-1 : Int), Builtin.Slice.slicePlaces ((n : Int) - 1) (-1) (-1))) _ _ s
  rw [plc_back]
  exact wpAny_pure q
theorem fm_congr {α β : Type} {f g : α → Option β} : ∀ l : List α, (∀ x ∈ l, f x = g x) → l.filterMap f = l.filterMap g
  | [], _ => rfl
  | x :: l, h => by
    rw [List.filterMap_cons, List.filterMap_cons, h x List.mem_cons_self, fm_congr l fun y hy => h y (List.mem_cons_of_mem _ hy)]
theorem pick_back (xs : Array Value) : ((List.range xs.size).filterMap fun (k : Nat) => xs[((xs.size : Int) - 1 + (k : Int) * -1).toNat]?).toArray = xs.toList.reverse.toArray := by
  congr 1
  have e : ∀ k ∈ List.range xs.size, xs[((xs.size : Int) - 1 + (k : Int) * -1).toNat]? = xs[xs.size - 1 - k]? := fun k hk => by
    have := List.mem_range.mp hk
    have e2 : ((xs.size : Int) - 1 + (k : Int) * -1).toNat = xs.size - 1 - k := by omega
    rw [e2]
  have e3 : ((List.range xs.size).filterMap fun (k : Nat) => xs[((xs.size : Int) - 1 + (k : Int) * -1).toNat]?) = ((List.range xs.size).map fun k => xs.size - 1 - k).filterMap (xs[·]?) := by
    rw [List.filterMap_map]
    exact fm_congr _ e
  rw [e3, PySem.W.krv_range, List.filterMap_reverse, PySem.W.krv_all]
theorem get_back {t b : Addr} {its : Array Value} {vl vu vs : Value} {Q : Value → Shared → Prop} (ht : IsTup s.heap t its) (z : s.heap.IsSliceOf b vl vu vs) (pl : IsPart vl none) (pu : IsPart vu none) (ps : IsPart vs (some (-1)))
    (hz : its.size ≤ sizeLine) (q : Q (.ref s.heap.objs.size) { s with heap := s.heap.push { cls := .type "tuple", data := .seq its.toList.reverse.toArray } }) : wpAny (model prog w) A (getItem (.ref t) (.ref b)) Q E s := by
  have hk : sizeOk (.seq its.toList.reverse.toArray) := by
    show its.toList.reverse.toArray.size ≤ sizeLine
    simpa using hz
  obtain ⟨ob, h1, h2, h3⟩ := id z
  have tb : s.TypeIs (.ref b) "slice" := ⟨ob, h1, h2⟩
  unfold getItem
  try with_reducible refine wpAny_holding ?_
  first | refine wpAny_bind (wpAny_pure ?_) | skip
  refine wpAny_bind (wpAny_sequenceKey ht.typeIs (by decide) ?_)
  refine wpAny_bind (wpAny_callSpecial?_slot (name := Str.ofString "__getitem__") ht.typeIs PyProof.Rows.slot_tuple_getitem (wpAny_call_entry PyProof.Rows.slot_tuple_getitem ht.typeIs PyProof.Rows.entry_tuple_getitem ?_ (PyProof.Rows.args_tuple_getitem _ _)))
  show wpAny _ _ (Builtin.Tuple.tupleItemsOf (.ref t) >>= _) _ _ s
  refine wpAny_bind (PyProof.Rows.tupleItemsOf_ ht (wpAny_bind (wpAny_typeOf tb ?_)))
  rw [if_pos (by decide)]
  refine wpAny_bind (app_back z pl pu ps ?_)
  have no : ¬ ((((its.size : Int) - 1) == 0 && (-1 : Int) == 1 && its.size == its.size) = true) := by simp
  show wpAny _ _ (if (((its.size : Int) - 1) == 0 && (-1 : Int) == 1 && its.size == its.size) = true then _ else _) _ _ s
  rw [if_neg no, pick_back]
  first
    | exact wpAny_bind (m := Builtin.Tuple.tupleExact _) (wpAny_newObj_type (wpAny_pure ⟨_, rfl, wpAny_pure q⟩) hk)
    | exact wpAny_bind (m := Builtin.Tuple.tupleExact _) (wpAny_newObj_type (wpAny_bind (wpAny_pure (wpAny_pure ⟨_, rfl, wpAny_pure q⟩))) hk)
    | exact wpAny_bind (wpAny_bind (m := Builtin.Tuple.tupleExact _) (wpAny_newObj_type (wpAny_pure (wpAny_pure ⟨_, rfl, wpAny_pure q⟩)) hk))
    | exact wpAny_bind (wpAny_bind (m := Builtin.Tuple.tupleExact _) (wpAny_newObj_type (wpAny_pure ⟨_, rfl, wpAny_pure q⟩) hk))
end
section
variable {TS : TabList} {X : Cx} {a : Expr} {fa : En → Res D} {pos p1 p2 p3 : Pos} {k : Nat}
def tBackT (K : PySem.W.Frag) (te : TE) : TE := fun σ H Q => te σ H fun x H1 => ∃ a xs, x = .ref a ∧ SqT K H1 a xs ∧ ∀ p, H1 p = none → Q (.ref p) (upd H1 p (.tup xs.reverse))
theorem pe_backT {te : TE} (he : PE X a te) : PE X (.Subscript a (.Slice none none (some (.UnaryOp .USub (.Constant (.int 1) k p1) p2)) p3) pos) (tBackT X.K te) := by
  refine ⟨fun pins s0 σ H0 Q I0 hq => ?_⟩
  refine Subscript_ (thn (he.run pins s0 σ H0 _ I0 hq) fun v s ⟨x, H, I, rx, b, xs, ex, hx, q⟩ => ?_)
  subst ex
  cases rx
  have part : PO X (some (.UnaryOp .USub (.Constant (.int 1) k p1) p2)) (tPart (tUn (rU fun i => .int (-i)) (tC (.int 1)))) := po_some (pe_un un_neg pe_int)
  refine wpAny_Slice (thn (po_none.run pins s σ H (fun o H' => o = none ∧ H' = H) I ⟨rfl, rfl⟩) ?_)
  rintro vl sl ⟨l, Hl, Il, pl, el, eh⟩
  subst el eh
  refine thn (po_none.run pins sl σ Hl (fun o H' => o = none ∧ H' = Hl) Il ⟨rfl, rfl⟩) ?_
  rintro vu su ⟨u, Hu, Iu, pu, eu, eh⟩
  subst eu eh
  refine thn (part.run pins su σ Hu (fun o H' => o = some (-1) ∧ H' = Hu) Iu ⟨1, rfl, -1, rfl, rfl, rfl⟩) ?_
  rintro vs ss ⟨o, Hs, Is, ps, eo, eh⟩
  subst eo eh
  have J : Inv X pins σ Hs { ss with heap := ss.heap.push { cls := .type "slice", data := .fields #[vl, vu, vs] } } := Is.kept (t' := ss.toks) fun _ _ z => Heap.get?_push_of_some _ z
  obtain ⟨its, r, ht, hz⟩ := J.tuple hx
  have hl := r.length
  show wpAny (model X.prog X.w) X.A (subscriptTail a (.Slice none none (some (.UnaryOp .USub (.Constant (.int 1) k p1) p2)) p3) (.ref b) (.ref ss.heap.objs.size)) (EP X pins σ Q) X.xe { ss with heap := ss.heap.push { cls := .type "slice", data := .fields #[vl, vu, vs] } }
  refine tail_any (ops := [.ref b, .ref ss.heap.objs.size]) ht.typeIs PyProof.Rows.slot_tuple_getitem.lookup ?_ (by with_unfolding_all rfl)
  refine get_back ht (Heap.IsSliceOf.new _ vl vu vs) pl pu ps (by rw [List.size_toArray]; omega) ?_
  refine ⟨.ref _, _, J.laid (t' := ss.toks) (o := .tup xs.reverse) (fun _ _ z => Heap.get?_push_of_some _ z) (Nat.le_refl _) ?_, rfl, q _ (J.hok.fresh (Nat.le_refl _))⟩
  exact ⟨by rw [List.length_reverse]; exact hz, _, r.reverse, IsTup.new _ _⟩
def backD : D → Res D
  | .tuple ds => .ok (.tuple ds.reverse)
  | _ => .bad
theorem rps_app {K : PySem.W.Frag} {G : Hp} {v : V} {d : D} (r : Rp K G v d) : ∀ {vs : List V} {ds : List D}, Rps K G vs ds → Rps K G (vs ++ [v]) (ds ++ [d]) := fun h => h.app (.cons r .nil)
theorem rps_rev {K : PySem.W.Frag} {G : Hp} : ∀ {vs : List V} {ds : List D}, Rps K G vs ds → Rps K G vs.reverse ds.reverse
  | _, _, .nil => .nil
  | _, _, .cons r rs => by
    rw [List.reverse_cons, List.reverse_cons]
    exact rps_app r (rps_rev rs)
end
end Pyr
set_option Elab.async false
set_option autoImplicit false
set_option linter.all false
set_option maxRecDepth 100000
set_option maxHeartbeats 2000000
namespace Pyr
open PySem PySem.Spec PyProof.Rows L2 Evl
section
variable {TS : TabList} {X : Cx} {a b e : Expr} {fa fb : En → Res D} {fl : En → Res (List D)} {pos : Pos}
def ownI (i : Nat) : En → Res (List D) := fun ρ => match ρ[i]? with
  | some (some (.dict [(.none, .list ds)])) => .ok ds
  | some (some (.list ds)) => .ok ds
  | _ => .bad
def eIxV (i : Nat) (fb : En → Res D) : En → Res D := fun ρ => (ownI i ρ).bind fun ds => (fb ρ).bind fun j => atD (.list ds) j
theorem own_there {K : PySem.W.Frag} {G H : Hp} {ρ : En} {σ : L2.St} {i : Nat} {ds : List D} (re : RpE TS K G H ρ σ) (ok : Ok0 TS G H) (h : ownI i ρ = .ok ds) : ∃ p vs, σ[i]? = some (some (.ref p)) ∧ SqL K H p vs ∧ (∀ G' H', Gr TS G H G' H' → SqL K H' p vs) ∧ Rps K G vs ds := by
  unfold ownI at h
  split at h
  · rename_i es he
    cases h
    obtain ⟨p, vs, h1, h2, h3⟩ := re.lo i _ he
    exact ⟨p, vs, h1, SqL.of h2, fun G' H' g => SqL.of (g.h.at h2 rfl), h3⟩
  · rename_i es he
    cases h
    obtain ⟨v, h1, r⟩ := re.at' i _ he rfl
    obtain ⟨p, vs, rfl, hp, rs⟩ := r.list_inv
    exact ⟨p, vs, h1, ex_l ok.le hp, fun G' H' g => ex_l (g.g.trans g.ok.le) hp, rs⟩
  · cases h
theorem de_ixV (i : Nat) {x : Str} {pos' : Pos} (hb : DE TS X b fb) (hN : X.N[i]? = some x := by rfl) (hv : Vis X.env.scope x := by first | exact Or.inl rfl | exact Or.inr (Or.inl rfl) | exact Or.inr (Or.inr rfl)) (hd : (x == ("__debug__" : Str)) = false := by decide) (hcd : (x == ("__classdict__" : Str)) = false := by decide)
    (hs : PlainIx b := by exact fun _ _ => rfl) : DE TS X (.Subscript (.Name x pos') b pos) (eIxV i fb) := by
  refine ⟨?_⟩
  intro W ρ σ G H Q tk re ok post
  have post : PostG (RelE X.K) TS X W σ G H ((ownI i ρ).bind fun ds => (fb ρ).bind fun j => atD (.list ds) j) Q := post
  refine wpE_of (pe_ix (ixr_wp) (pe_var hN hv hd hcd) (pe_wp X b) hs) ?_
  cases ho : ownI i ρ with
  | ok ds =>
    rw [ho] at post
    obtain ⟨p, vs, h1, h2, h3, h4⟩ := own_there re ok ho
    refine ⟨_, h1, ?_⟩
    refine bindP back_E (fun Q' h => hb W ρ σ G H Q' tk re ok h) post fun u y G2 H2 _ g2 ry p2 => ?_
    cases ry with
    | int j =>
      have p2 : PostG (RelE X.K) TS X W σ G2 H2 (match atI ds j with
        | some d => .ok d
        | none => .bad) Q := p2
      split at p2
      · rename_i d hd
        obtain ⟨w, e1, e2⟩ := atI_rel h4 hd
        exact wpI_of ix_list ⟨p, vs, j, w, rfl, rfl, h3 G2 H2 g2, e1, fin1 g2.ok p2 (e2.mono g2.g)⟩
      · exact p2.elim
    | _ => exact p2.elim
  | exc c fs =>
    unfold ownI at ho
    split at ho <;> cases ho
  | bad =>
    rw [ho] at post
    exact post.elim
  | alt f =>
    unfold ownI at ho
    split at ho <;> cases ho
def lAdd (fa fb : En → Res D) : En → Res (List D) := fun ρ => (fa ρ).bind fun x => (fb ρ).bind fun y => match x, y with
  | .list xs, .list ys => okL (xs.length + ys.length) (.ok (xs ++ ys))
  | _, _ => .bad
def intsD : List D → Option (List Int)
  | [] => some []
  | .int i :: ds => (intsD ds).map (i :: ·)
  | _ :: _ => none
def maxL : List Int → Int
  | [] => 0
  | [x] => x
  | x :: y :: r => max x (maxL (y :: r))
def maxD : List D → Res D
  | [.int i, .int j] => .ok (.int (if j > i then j else i))
  | [.list ds] => match intsD ds with
    | some (n :: ns) => .ok (.int (maxL (n :: ns)))
    | _ => .bad
  | _ => .bad
def minD : List D → Res D
  | [.int i, .int j] => .ok (.int (if j < i then j else i))
  | _ => .bad
theorem run_max2 {i j : Int} : maxD [.int i, .int j] = .ok (.int (if j > i then j else i)) := rfl
theorem run_min2 {i j : Int} : minD [.int i, .int j] = .ok (.int (if j < i then j else i)) := rfl
def sExt (i : Nat) (fl : En → Res (List D)) : Frm → Res Fl := fun ρ => match ρ[i]? with
  | some (Sl.own (.lst ds)) => (evL fl ρ).bind fun es => okL (ds.length + es.length) (.ok (.next (ρ.set i (.own (.lst (ds ++ es))))))
  | _ => .bad
end
end Pyr
set_option Elab.async false
set_option autoImplicit false
set_option linter.all false
set_option maxRecDepth 100000
set_option maxHeartbeats 4000000
namespace Pyr
open PySem PySem.Spec PyProof.Rows L2 Evl
section
variable {prog : Program} {w : World} {A : Around} {E : Value → Shared → Prop} {s : Shared}
end
section
variable {TS : TabList} {X : Cx} {e : Expr} {fe : En → Res D} {pos p1 p2 : Pos}
end
end Pyr
set_option Elab.async false
set_option autoImplicit false
set_option linter.all false
set_option maxRecDepth 100000
set_option maxHeartbeats 4000000
namespace Pyr
open PySem PySem.Spec PyProof.Rows L2 Evl
section
variable {prog : Program} {w : World} {A : Around} {R : Result → Shared → Prop} {I : Addr} {fp wr : List Addr} {G : Array GenState → Array GenState → Prop} {n : Nat} {Pi : Nat → Value → Prop} {St : Nat → Shared → Prop}
theorem upd_loop (W : WalksS prog w A.in1 I fp wr G n Pi St) (S : Addr) (hS : S ∉ fp) (xs : List Str) (hx : xs.length = n) (room : n + 1 < scanBound) (hv : ∀ i v, Pi i v → ∃ t, v = .str (xs.getD i Str.empty) t) :
    ∀ (m i : Nat) (s : Shared), i + m = n → St i s → SetT prog w s.heap S (xs.take i) → (∀ s', Moved (S :: wr) G s s' → SetT prog w s'.heap S xs → R (.ok (.ret .none)) s') → codeAny (model prog w) A (.builtin "set.update.loop" ⟨[.ref S, .ref I], []⟩) R s := by
  have out : S ∉ wr := fun z => hS (W.sub _ z)
  have more : ∀ b ∈ wr, b ∈ S :: wr := fun b z => List.mem_cons_of_mem _ z
  intro m
  induction m with
  | zero =>
    intro i s hi st hT q
    have ei : i = n := by omega
    subst ei
    rw [← hx, List.take_length] at hT
    refine codeAny_builtin PyProof.Rows.F.entry_set_update_loop ?_
    rw [Around.under_plainId PyProof.Rows.F.plain_set_update_loop _]
    show wpAny _ A.in1 (pyNext (.ref I) >>= _) _ _ s
    refine wpAny_bind (W.done s _ _ st fun u hm => ?_)
    show wpAny _ A.in1 (ret Value.none) _ _ u
    exact wpAny_pure (q u (hm.mono more) (setT_at hT fun o ho => hm.heap S _ out ho))
  | succ m ih =>
    intro i s hi st hT q
    have lt : i < n := by omega
    refine codeAny_builtin PyProof.Rows.F.entry_set_update_loop ?_
    rw [Around.under_plainId PyProof.Rows.F.plain_set_update_loop _]
    show wpAny _ A.in1 (pyNext (.ref I) >>= _) _ _ s
    refine wpAny_bind (W.item i s _ _ lt st fun v u hp st2 hm => ?_)
    obtain ⟨t, rfl⟩ := hv i v hp
    obtain ⟨c, hc, hT⟩ := setT_at hT (h' := u.heap) fun o ho => hm.heap S _ out ho
    have hc2 : c ≤ i := by
      rw [hc]
      exact Nat.le_trans (ddS_le _) (by rw [List.length_take]; omega)
    show wpAny _ A.in1 (holding [Value.str (xs.getD i Str.empty) t] (setAdd S (.str (xs.getD i Str.empty) t)) >>= _) _ _ u
    refine wpAny_bind (wpAny_holding ?_)
    unfold setAdd
    refine wpAny_holding ?_
    refine wpAny_bind ((PySem.strKind prog w).pyHash (k := xs.getD i Str.empty) (strKind_is _ _ _ _) ?_)
    refine wpAny_setAddHashed_of (knd := PySem.strKind prog w) (s := { u with toks := u.toks + 1 }) (strKind_is _ _ _ _) rfl hT (by omega) fun g same new => ?_
    have nx : SetT prog w g S (xs.take (i + 1)) := by
      have hi2 : i < xs.length := by omega
      have e1 : xs.getD i Str.empty = xs[i] := by simp [List.getD, hi2]
      rw [e1] at new
      refine ⟨_, ?_, SetOf_congr new (fun k => ?_) rfl⟩
      · rw [List.take_succ_eq_append_getElem hi2, ddS_snoc]
        by_cases hm : xs[i] ∈ xs.take i
        · rw [if_pos (by simpa using hm), if_pos ((ddS_mem _ _).mpr hm)]
          exact hc
        · rw [if_neg (by simpa using hm), if_neg (fun z => hm ((ddS_mem _ _).mp z)), List.length_append]
          rw [hc]
          rfl
      · rw [List.take_succ_eq_append_getElem hi2, Bool.eq_iff_iff]
        simp only [List.mem_append, List.mem_singleton, Bool.or_eq_true, decide_eq_true_eq]
    refine wpAny_pure ⟨plainId_quiet PyProof.Rows.F.plain_set_update_loop _, ih (i + 1) _ (by omega) (W.frame _ u _ _ st2 (Nat.le_succ _) fun b hb o e => ?_) nx fun u2 hm2 hT2 => ?_⟩
    · rw [same.2 b fun z : b = S => hS (by rw [← z]; exact hb)]
      exact e
    · refine q u2 (Moved.trans W.gtrans ((hm.mono more).then_heap (Nat.le_succ _) fun b o hb e => ?_) hm2) hT2
      rw [same.2 b fun z : b = S => hb (by rw [z]; exact List.mem_cons_self)]
      exact e
end
section
variable {prog : Program} {w : World} {A : Around} {E : Value → Shared → Prop} {s : Shared}
theorem set_of_texts {l : Addr} {its : Array Value} {xs : List Str} {Q : Value → Shared → Prop} (hh : A.handled = none) (hl : s.heap.IsList l its) (hi : PyProof.Rows.StrsAre its.toList xs) (room : its.size + 1 < scanBound)
    (q : ∀ (g : Heap) (k : Nat), SetT prog w g s.heap.objs.size xs → (∀ b o, b < s.heap.objs.size → s.heap.get? b = some o → g.get? b = some o) → Q (.ref s.heap.objs.size) { s with heap := g, toks := k }) :
    wpAny (model prog w) A (call (.type "set") [.ref l]) Q E s := by
  have hx : xs.length = its.size := by
    rw [← Array.length_toList]
    exact (StrsAre.length hi).symm
  obtain ⟨c, tl, hmro⟩ := PySem.F.called_set.mro
  have made := PySem.F.called_set.made
  have sub := PySem.F.called_set.sub
  refine wpAny_call (codeAny_of_tree ?_)
  show wpAny _ _ (callAny (.type "set") _) _ _ _
  refine wpAny_pure ⟨Code.quiet_builtin _ (by decide +kernel), codeAny_builtin PySem.F.entry_type_call ?_⟩
  rw [Around.under_plain (weight_type_call_type "set" [.ref l] []) rfl]
  have n1 := PySem.F.called_set.notType
  have n2 := PySem.F.called_set.canCreate
  have n3 := PySem.F.typeCall_set_1 (.ref l)
  repeat (any_goals (first | assumption | wp_step))
  refine codeAny_mono (code_set_new_1 (.ref l) (E := E) (Q₁ := fun z u => ∃ led : Bool, z = .ref s.heap.objs.size ∧ u = { s with heap := s.heap.push { cls := .type "set", dict := none, data := .set #[] 0 (.fresh 0 0 led) } }) fun led => ⟨led, rfl, rfl⟩) fun r u hr => ?_
  cases r with
  | error e => exact hr
  | ok fl =>
    cases fl with
    | ret z =>
      obtain ⟨led, rfl, rfl⟩ := hr
      generalize ob : ({ cls := .type "set", dict := none, data := .set #[] 0 (.fresh 0 0 led) } : Obj) = sob
      have here : (s.heap.push sob).get? s.heap.objs.size = some sob := Heap.get?_push_size _ (by rw [← ob]; rfl)
      have ty : Shared.TypeIs { s with heap := s.heap.push sob } (.ref s.heap.objs.size) "set" := ⟨_, here, by rw [← ob]⟩
      have n4 := PySem.F.called_set.init.lookup
      have n5 := PySem.F.called_set.init.bind (.ref s.heap.objs.size)
      repeat (any_goals (first | assumption | wp_step))
      refine codeAny_mono (codeAny_call_builtin (R := wants (fun r u => r = .none ∧ ∃ g k, u = { s with heap := g, toks := k } ∧ SetT prog w g s.heap.objs.size xs ∧ (∀ b o, b < s.heap.objs.size → s.heap.get? b = some o → g.get? b = some o)) E) PySem.F.called_set.init.plain PySem.F.entry_set_init (check_set_init_1 ty ?_)) fun r2 u2 hr2 => ?_
      · have hl1 : (s.heap.push sob).IsList l its := hl.push _
        obtain ⟨ol, hol, hcl, nl, hdl⟩ := id hl1
        have tl : Shared.TypeIs { s with heap := s.heap.push sob } (.ref l) "list" := ⟨ol, hol, hcl⟩
        have lt : l < s.heap.objs.size := by
          obtain ⟨o, ho, _⟩ := hl
          exact Heap.lt_size ho
        have k1 := PySem.F.sub_list_set
        have k2 := PySem.F.sub_list_frozenset
        have k3 : (Value.type "list" == Value.type "dict") = false := by decide
        unfold Builtin.«set.__init__» noKeywords Builtin.Frozenset.updateFrom
        obtain ⟨c1, c2, c3, c4⟩ := ol
        simp only at hcl hdl
        subst hcl hdl ob
        generalize hP : pyIter = walk
        wp_walk
        subst hP
        refine wpAny_pyIter_list hl1 (wpAny_bind (wpAny_runValue ?_))
        have ne : l ≠ (s.heap.push { cls := .type "set", dict := none, data := .set #[] 0 (.fresh 0 0 led) }).objs.size := by
          rw [Heap.size_push]
          exact Nat.ne_of_lt (Nat.lt_succ_of_lt lt)
        have apart : s.heap.objs.size ∉ [(s.heap.push { cls := .type "set", dict := none, data := .set #[] 0 (.fresh 0 0 led) }).objs.size, l] := by
          rw [Heap.size_push]
          simp only [List.mem_cons, List.not_mem_nil, or_false, not_or]
          exact ⟨Nat.ne_of_lt (Nat.lt_succ_self _), Nat.ne_of_gt lt⟩
        have vals : ∀ (i : Nat) (v : Value), its[i]? = some v → ∃ t, v = .str (xs.getD i Str.empty) t := fun i v hv => by
          obtain ⟨y, t, e1, e2⟩ := StrsAre.item hi i v (by rw [Array.getElem?_toList]; exact hv)
          exact ⟨t, by rw [e1, List.getD_eq_getElem?_getD, e2]; rfl⟩
        have calm : A.in1.in1.in1.handled = none := by simp [hh]
        refine upd_loop ((Walks.list calm _ l ne its).toS) s.heap.objs.size apart xs hx room vals its.size 0 _ (by omega) ⟨⟨_, Heap.get?_push_size _ rfl, rfl, rfl⟩, hl1.push _⟩ ?_ fun u hm hT => ?_
        · have at0 : ((s.heap.push { cls := .type "set", dict := none, data := .set #[] 0 (.fresh 0 0 led) }).push { cls := .type "list_iterator", data := .fields #[.ref l, .int 0 0] }).get? s.heap.objs.size = some { cls := .type "set", dict := none, data := .set #[] 0 (.fresh 0 0 led) } := Heap.get?_push_of_some _ here
          exact ⟨0, by simp [ddS], SetOf_congr ((PyProof.Rows.setObjOf_fresh (knd := PySem.strKind prog w) led).setOf at0 (by unfold scanBound; omega)) (fun k => by simp) rfl⟩
        · obtain ⟨g, x1, x2, k, x3⟩ := u
          have q1 : x1 = s.gens := hm.gens
          have q2 : x2 = s.drawn := hm.drawn
          have q3 : x3 = s.os := hm.os
          subst q1 q2 q3
          show wpAny _ _ _ _ _ _
          refine wpAny_pure ?_
          show wpAny _ _ (ret Value.none) _ _ _
          refine wpAny_pure ⟨rfl, g, k, rfl, hT, fun b o hb e => ?_⟩
          refine hm.heap b o ?_ (Heap.get?_push_of_some _ (Heap.get?_push_of_some _ e))
          rw [Heap.size_push]
          simp only [List.mem_cons, List.not_mem_nil, or_false, not_or]
          exact ⟨Nat.ne_of_lt hb, Nat.ne_of_lt (Nat.lt_succ_of_lt hb)⟩
      · cases r2 with
        | error e => exact hr2
        | ok f2 =>
          cases f2 with
          | ret r =>
            obtain ⟨rfl, g, k, rfl, h1, h2⟩ := hr2
            repeat (any_goals (first | assumption | wp_step))
            exact q g k h1 h2
          | _ => exact hr2.elim
    | _ => exact hr.elim
end
def strB : D → Bool
  | .str _ => true
  | _ => false
def keysC (ds : List D) : Bool := keysB ds && ds.all tupB && ds.all (fun d => decide (d.depth ≤ 8)) && decide (ds.length ≤ 63)
def textsD : D → Res (List D)
  | .list ds => if (ds.all strB && decide (ds.length ≤ 4000) && !ds.isEmpty) = true then .ok ds else if keysC ds then .ok ds else .bad
  | _ => .bad
def sSetS (i : Nat) (fe : En → Res D) : Frm → Res Fl := fun ρ => (evP fe ρ).bind fun x => (textsD x).bind fun ds => .ok (.next (ρ.set i (.own (.set ds))))
def setI (i : Nat) : En → Res (List D) := fun ρ => match ρ[i]? with
  | some (some (.dict [(.bool true, .list ds)])) => .ok ds
  | _ => .bad
def eInS (neg : Bool) (i : Nat) (fa : En → Res D) : En → Res Bool := fun ρ => (fa ρ).bind fun x => (setI i ρ).bind fun ds => match x with
  | .str y => if ds.all strB then .ok (neg != ds.any fun z => PyData.eqv z (.str y)) else .bad
  | .tuple xs => if (keysB xs && decide ((PyData.tuple xs).depth ≤ 8) && ds.all tupB) = true then .ok (neg != ds.any fun z => decide (nk z = nk (.tuple xs))) else .bad
  | _ => .bad
theorem key_parts {ds : List D} (h : keysC ds = true) : keysB ds = true ∧ (∀ d ∈ ds, tupB d = true) ∧ (∀ d ∈ ds, d.depth ≤ 8) ∧ ds.length ≤ 63 := by
  unfold keysC at h
  simp only [Bool.and_eq_true, decide_eq_true_eq] at h
  exact ⟨h.1.1.1, fun d hd => List.all_eq_true.mp h.1.1.2 d hd, fun d hd => of_decide_eq_true (List.all_eq_true.mp h.1.2 d hd), h.2⟩
section
variable {X : Cx} {pins : List (Addr × Obj)} {σ : L2.St} {H : Hp} {s : Shared}
mutual
theorem key_at (I : Inv X pins σ H s) : ∀ (d : D) (v : V) (u : Value), Rp X.K H v d → keyB d = true → RelV v u → NestedIs s.heap (nk d) u
  | .int i, _, u, r, _, ru => by
    cases r
    obtain ⟨t, rfl⟩ := (show ∃ t, u = Value.int i t from ru)
    exact .int i t
  | .str x, _, u, r, _, ru => by
    cases r
    obtain ⟨t, rfl⟩ := (show ∃ t, u = Value.str x t from ru)
    exact .text x t
  | .tuple ds, _, u, r, k, ru => by
    cases r with
    | tup sq rs =>
      cases (show u = Value.ref _ from ru)
      obtain ⟨its, rv, ⟨o, ho, hc, n, hd⟩, _⟩ := I.tuple sq
      exact .tup ho hc hd (by simpa using keys_at I ds _ _ rs k rv)
  | .none, _, _, _, k, _ => by simp [keyB] at k
  | .bool _, _, _, _, k, _ => by simp [keyB] at k
  | .list _, _, _, _, k, _ => by simp [keyB] at k
  | .dict _, _, _, _, k, _ => by simp [keyB] at k
theorem keys_at (I : Inv X pins σ H s) : ∀ (ds : List D) (vs : List V) (us : List Value), Rps X.K H vs ds → keysB ds = true → Vals vs us → NestedAll s.heap (nks ds) us
  | [], _, _, r, _, ru => by
    cases r
    cases ru
    exact .nil
  | d :: ds, _, _, r, k, ru => by
    rw [keysB, Bool.and_eq_true] at k
    cases r with
    | cons r rs =>
      cases ru with
      | cons ru rus => exact .cons (key_at I d _ _ r k.1 ru) (keys_at I ds _ _ rs k.2 rus)
end
end
theorem keysB_mem : ∀ {ds : List D}, keysB ds = true → ∀ d ∈ ds, keyB d = true
  | _ :: ds, h, d, hd => by
    rw [keysB, Bool.and_eq_true] at h
    cases hd with
    | head => exact h.1
    | tail _ hd => exact keysB_mem h.2 d hd
theorem nks_map : ∀ ds : List D, nks ds = ds.map nk
  | [] => rfl
  | d :: ds => by rw [nks, nks_map ds]; rfl
theorem refs_of {K : PySem.W.Frag} {G : Hp} : ∀ {vs : List V} {ds : List D}, Rps K G vs ds → (∀ d ∈ ds, tupB d = true) → ∃ ps : List (Addr × NestedKey), vs = ps.map (fun e => V.ref e.1) ∧ nks ds = ps.map (·.2)
  | _, _, .nil, _ => ⟨[], rfl, rfl⟩
  | _, _, .cons (v := v) (d := d) r rs, h => by
    obtain ⟨ps, e1, e2⟩ := refs_of rs fun x hx => h x (List.mem_cons_of_mem _ hx)
    have hd := h d List.mem_cons_self
    obtain ⟨a, rfl⟩ : ∃ a, v = V.ref a := by
      cases r <;> first | exact ⟨_, rfl⟩ | cases hd
    exact ⟨(a, nk d) :: ps, by rw [e1]; rfl, by rw [nks, e2]; rfl⟩
theorem one_of {K : PySem.W.Frag} {G : Hp} {ps : List (Addr × NestedKey)} {ds : List D} (r : Rps K G (ps.map fun e => V.ref e.1) ds) (hk : nks ds = ps.map (·.2)) : ∀ e ∈ ps, ∃ d ∈ ds, Rp K G (.ref e.1) d ∧ nk d = e.2 := by
  induction ps generalizing ds with
  | nil => intro e he; cases he
  | cons p ps ih =>
    cases r with
    | @cons _ _ d ds r rs =>
      simp only [nks, List.map_cons, List.cons.injEq] at hk
      intro e he
      cases he with
      | head => exact ⟨d, List.mem_cons_self, r, hk.1⟩
      | tail _ he =>
        obtain ⟨d', h1, h2⟩ := ih rs hk.2 e he
        exact ⟨d', List.mem_cons_of_mem _ h1, h2⟩
theorem keys_in {X : Cx} {pins : List (Addr × Obj)} {σ : L2.St} {H : Hp} {s : Shared} {ps : List (Addr × NestedKey)} {ds : List D} (I : Inv X pins σ H s) (r : Rps X.K H (ps.map fun e => V.ref e.1) ds) (hk : nks ds = ps.map (·.2)) (hb : keysB ds = true) (hd : ∀ d ∈ ds, d.depth ≤ 8) : ∀ e ∈ ps, KAt s.heap e.2 e.1 := fun e he => by
  obtain ⟨d, d1, d2, d3⟩ := one_of r hk e he
  rw [← d3]
  exact ⟨key_at I d _ _ d2 (keysB_mem hb d d1) rfl, Nat.le_trans (nk_depth d) (hd d d1)⟩
theorem refs_vals : ∀ {ps : List (Addr × NestedKey)} {us : List Value}, Vals (ps.map fun e => V.ref e.1) us → us = ps.map fun e => Value.ref e.1
  | [], _, r => by cases r; rfl
  | p :: ps, _, r => by
    cases r with
    | cons r rs =>
      cases (show _ = Value.ref p.1 from r)
      rw [refs_vals rs]
      rfl
theorem keyO_get {X : Cx} {pins : List (Addr × Obj)} {σ : L2.St} {H : Hp} {s : Shared} {a : Addr} {ps : List (Addr × NestedKey)} (I : Inv X pins σ H s) (ha : H a = some (keyO X.prog X.w a ps)) : KeyS X.prog X.w s.heap a ps := (I.hok a _ ha).1
theorem KeyS.none {P : Program} {w : World} {h : Heap} {a : Addr} (S : KeyS P w h a []) : h.SetOf (PySem.strKind P w) a (fun _ => false) 0 := by
  obtain ⟨L, es, ep, t, R, sub, _⟩ := S.full fun e he => (by cases he)
  have : L = [] := List.eq_nil_iff_forall_not_mem.mpr fun e he => nomatch sub e he
  subst this
  obtain ⟨o, ho, hex, hd⟩ := R.here
  have z := R.cont
  have z2 : es = #[] := by
    cases es
    simp only [entN, List.map_nil] at z
    rw [z]
  have ft := SetN.fit (s := { heap := h }) R
  subst z2
  exact ⟨o, #[], ep, t, ho, hex, hd, fun e he => (by simp at he), fun k => by simp, by decide, ft, rfl⟩
section
variable {TS : TabList} {X : Cx} {a e : Expr} {fa : En → Res D} {pos : Pos}
theorem texts_of {K : PySem.W.Frag} {G : Hp} : ∀ {vs : List V} {ds : List D}, Rps K G vs ds → ds.all strB = true → ∃ xs : List Str, vs = xs.map V.str ∧ ds = xs.map .str
  | _, _, .nil, _ => ⟨[], rfl, rfl⟩
  | _, _, .cons (d := d) r rs, h => by
    rw [List.all_cons, Bool.and_eq_true] at h
    obtain ⟨xs, e1, e2⟩ := texts_of rs h.2
    cases r with
    | str x => exact ⟨x :: xs, by rw [e1]; rfl, by rw [e2]; rfl⟩
    | _ => exact absurd h.1 (by simp [strB])
theorem strsAre_of : ∀ {xs : List Str} {us : List Value}, Vals (xs.map V.str) us → PyProof.Rows.StrsAre us xs
  | [], _, r => by
    cases r
    exact .nil
  | x :: xs, _, r => by
    cases r with
    | cons r rs =>
      obtain ⟨t, rfl⟩ := (show ∃ t, _ = Value.str x t from r)
      exact .cons x t (strsAre_of rs)
theorem cr_set (hA : X.calm = true) {p : Addr} {xs : List Str} {H : Hp} {Q : VK} (hp : SqL X.K H p (xs.map V.str)) (hl : xs.length ≤ 4000) (q : ∀ l, H l = none → Q (.ref l) (upd H l (setO X.prog X.w l (xs.map .str)))) : wpC X (.type "set") [.ref p] H Q := by
  intro pins s σ us I r
  obtain ⟨u, rfl, rx⟩ := vals1 r
  cases rx
  obtain ⟨its, r', pl, hz⟩ := I.list hp
  have hlen := r'.length
  refine set_of_texts (I.ok.hd hA) pl.isList (strsAre_of r') ?_ fun g k hT kp => ?_
  · rw [List.length_map] at hlen
    rw [List.size_toArray, ← hlen]
    exact Nat.lt_of_le_of_lt (Nat.succ_le_succ hl) (by decide)
  · have kp' : ∀ b o, s.heap.get? b = some o → g.get? b = some o := fun b o h => kp b o (Heap.lt_size h) h
    refine ⟨.ref s.heap.objs.size, _, I.laid (t' := k) kp' (Nat.le_refl _) (show ObjOk X.prog X.w _ g _ (setO X.prog X.w s.heap.objs.size (xs.map .str)) from ⟨.txt xs hT, ?_, fun h1 h2 z st => z.at st⟩), rfl, q _ (I.hok.fresh (Nat.le_refl _))⟩
    obtain ⟨n, _, o, es, ep, t, ho, _⟩ := hT
    exact ⟨o, ho⟩
theorem cr_setK (C : CtE X) {p : Addr} {ps : List (Addr × NestedKey)} {ds : List D} {G H : Hp} {Q : VK} (hG : Ex G H) (hp : SqL X.K H p (ps.map fun e => V.ref e.1)) (r : Rps X.K G (ps.map fun e => V.ref e.1) ds) (hk : nks ds = ps.map (·.2)) (hc : keysC ds = true) (q : ∀ l, H l = none → Q (.ref l) (upd H l (keyO X.prog X.w l ps))) : wpC X (.type "set") [.ref p] H Q := by
  intro pins s σ us I rv
  obtain ⟨u, rfl, rx⟩ := vals1 rv
  cases rx
  obtain ⟨its, r', pl, hz⟩ := I.list hp
  obtain ⟨kb, _, dp, len⟩ := key_parts hc
  have pl2 : ps.length = ds.length := by
    have := congrArg List.length hk
    rw [nks_map, List.length_map, List.length_map] at this
    exact this.symm
  refine set_of_keys (ps := ps) (I.ok.hd C.calm) pl.isList (by simpa using refs_vals r') (keys_in I (r.mono hG) hk kb dp) (by omega) C.un fun g k S kp => ?_
  exact ⟨.ref s.heap.objs.size, _, I.laid (t' := k) kp (Nat.le_refl _) (keyO_ok S), rfl, q _ (I.hok.fresh (Nat.le_refl _))⟩
theorem SI.storeS {G_0 H_0 G H : Hp} {ρ : Frm} {σ : L2.St} {fp : Nat → List Addr} {i : Nat} {l : Addr} {ds : List Pyr.D} (s : SI TS X.K G_0 H_0 ρ σ G H fp) (hl : H l = none) {o : HO} (r : StAt TS X.K G (upd H l o) l ds) : ∃ fp', SI TS X.K G_0 H_0 (ρ.set i (.own (.set ds))) (σ.set i (some (.ref l))) G (upd H l o) fp' := by
  refine ⟨_, (s.grow (Gr.own s.gr.ok hl)).setOwn (.set r) (fun a ha => ?_) fun j u hj _ a ha hb => ?_⟩
  · rw [List.mem_singleton.mp ha]
    exact ⟨fresh_back s.gr.ok.le hl, s.gr.h.old l hl⟩
  · rw [List.mem_singleton.mp ha] at hb
    obtain ⟨v2, _, h2⟩ := s.own j u hj
    obtain ⟨w, hw, _⟩ := h2.there l hb
    rw [hl] at hw
    cases hw
theorem ds_setS (i : Nat) {y : Str} {p p' spos : Pos} (hP : TS.P = X.prog) (hw : TS.w = X.w) (ha : DE TS X a fa) (C : CtE X) (hg : Gl X "set") (hm : X.mg "set" = none) (hv : bootBuiltins "set" = some (.type "set"))
    (hi : X.N[i]? = some y := by rfl) (hx : Loc X.env.scope y := by first | exact Or.inl rfl | exact Or.inr rfl) (he : starEach [a] X.env = (false, eval a X.env) :: starEach [] X.env := by rfl) (hpl : (backTo pos (starEach [] X.env)).any (·.1) = false := by rfl)
    (hs : swapsWith (.Call (.Name "set" p) [a] [] pos) (some (.Name y p')) spos.line X.env = pure false := by rfl) (hf : X.fn y = true ∨ X.env.scope.names.lookup y = some .local := by first | exact .inl rfl | exact .inr rfl) :
    DSt TS X (.Assign [.Name y p'] (.Call (.Name "set" p) [a] [] pos) spos) (sSetS i fa) := by
  refine ⟨?_⟩
  intro W ρ σ G_0 H_0 G H fp D tk s post
  refine wpSt_of (ps_set C.nd hi hx (pe_wp X _) hs hf) ?_
  refine wpE_of (pe_callTy (cr_wp _) hg hm hv (pa_cons (pe_wp X a) pa_nil he) (by decide) (by decide) he hpl) ?_
  refine evP_run ha tk s post fun v d G1 H1 g r p2 => ?_
  unfold textsD at p2
  split at p2
  · rename_i ds
    obtain ⟨q, vs, rfl, hq, rs⟩ := r.list_inv
    split at p2
    · rename_i hc
      simp only [Bool.and_eq_true, decide_eq_true_eq, Bool.not_eq_true', List.isEmpty_eq_false_iff] at hc
      obtain ⟨⟨hall, hlen⟩, hne⟩ := hc
      obtain ⟨xs, e1, e2⟩ := texts_of rs hall
      subst e1 e2
      rw [List.length_map] at hlen
      refine cr_set C.calm (ex_l g.ok.le hq) hlen fun l hl => ?_
      obtain ⟨fp', s'⟩ := (s.grow g).storeS (i := i) (ds := xs.map .str) hl (o := setO X.prog X.w l (xs.map .str)) ⟨.inl ⟨⟨hne, (fun z => by cases xs <;> cases z), (fun z => by cases xs <;> cases z)⟩, by rw [hP, hw]; exact upd_same⟩⟩
      exact p2 _ G1 _ fp' g.g s'
    · split at p2
      · rename_i hc
        obtain ⟨kb, tb, dp, len⟩ := key_parts hc
        obtain ⟨ps, e1, e2⟩ := refs_of rs tb
        subst e1
        refine cr_setK C g.ok.le (ex_l g.ok.le hq) rs e2 hc fun l hl => ?_
        obtain ⟨fp', s'⟩ := (s.grow g).storeS (i := i) (ds := ds) hl (o := keyO X.prog X.w l ps) ⟨.inr (.inl ⟨ps, by rw [hP, hw]; exact upd_same, rs, e2, kb, dp⟩)⟩
        exact p2 _ G1 _ fp' g.g s'
      · exact p2.elim
  · exact p2.elim
theorem any_str {xs : List Str} {y : Str} : ((xs.map PyData.str).any fun z => PyData.eqv z (.str y)) = decide (y ∈ xs) := by
  induction xs with
  | nil => simp
  | cons x xs ih =>
    rw [List.map_cons, List.any_cons, ih]
    by_cases h : x = y
    · subst h
      simp [PyData.eqv]
    · have h2 : ¬ y = x := fun z => h z.symm
      simp [PyData.eqv, h, h2]
theorem we_inS (i : Nat) {neg : Bool} {x : Str} {W : WX} {ρ : En} {σ : L2.St} {G H : Hp} {Q : Bool → Hp → Prop} (hP : TS.P = X.prog) (hw : TS.w = X.w) (hu : X.A.units + 65 < cLine) (ha : DE TS X a fa) (hN : X.N[i]? = some x) (tk : Takes X W) (re : RpE TS X.K G H ρ σ) (ok : Ok0 TS G H) (post : PostG RelT TS X W σ G H (eInS neg i fa ρ) Q) :
    wpE X a σ H fun v H1 => ∃ u, σ[i]? = some (some u) ∧ wpO X (compareOp (if neg then .NotIn else .In)) v u H1 fun z H2 => ∃ k, z = .bl k ∧ Q k H2 := by
  refine bindP (Ra := RelE X.K) (wp := fun R => wpE X a σ H R) back_T (fun Q' h => ha W ρ σ G H Q' tk re ok h) post fun v d G1 H1 _ g1 rx p1 => ?_
  unfold setI at p1
  split at p1
  · rename_i ds hd
    obtain ⟨l, h1, h2⟩ := (re.mono g1).st i ds hd
    refine ⟨_, h1, ?_⟩
    cases rx with
    | str y =>
      have p1 : PostG RelT TS X W σ G1 H1 (if ds.all strB then .ok (neg != ds.any fun z => PyData.eqv z (.str y)) else .bad) Q := p1
      split at p1
      · rename_i hall
        intro pins s σ' v u I rv ru
        obtain ⟨t, rfl⟩ := (show ∃ t, v = Value.str y t from rv)
        cases (show u = Value.ref l from ru)
        have hS : ∃ xs : List Str, ds = xs.map .str ∧ ∃ n, s.heap.SetOf (PySem.strKind X.prog X.w) l (fun k => decide (k ∈ xs)) n := by
          rcases h2.ex with ⟨_, h3⟩ | ⟨ps, h3, r3, h4, _⟩ | ⟨ys, es, e3, _⟩ | ⟨e3, _⟩
          · obtain ⟨hD, _, _⟩ := (show _ ∧ _ ∧ _ from I.hok l _ h3)
            rw [hP, hw] at hD
            cases hD with
            | txt xs hT =>
              obtain ⟨n, _, hS⟩ := hT
              exact ⟨xs, rfl, n, hS⟩
          · have e0 : ps = [] ∧ ds = [] := by
              cases ps with
              | nil => cases r3; exact ⟨rfl, rfl⟩
              | cons p ps =>
                cases r3 with
                | cons r3 _ =>
                  rw [List.all_cons, Bool.and_eq_true] at hall
                  cases r3 <;> cases hall.1
            obtain ⟨rfl, rfl⟩ := e0
            rw [hP, hw] at h3
            exact ⟨[], rfl, 0, by simpa using (keyO_get I h3).none⟩
          · rw [e3] at hall
            cases hall
          · rw [e3] at hall
            cases hall
        obtain ⟨xs, rfl, n, hS⟩ := hS
        rw [any_str] at p1
        cases neg with
        | true =>
          refine wpAny_notInSet_of (knd := PySem.strKind X.prog X.w) (k := y) (strKind_is _ _ _ _) rfl hS ?_
          refine ⟨.bl (!decide (y ∈ xs)), H1, I.tok _, rfl, _, rfl, ?_⟩
          have := p1 _ G1 H1 (Gr.refl g1.ok) rfl
          simpa using this
        | false =>
          refine wpAny_inSet_of (knd := PySem.strKind X.prog X.w) (k := y) (strKind_is _ _ _ _) rfl hS ?_
          refine ⟨.bl (decide (y ∈ xs)), H1, I.tok _, rfl, _, rfl, ?_⟩
          have := p1 _ G1 H1 (Gr.refl g1.ok) rfl
          simpa using this
      · exact p1.elim
    | @tup xa vs xs sq rxs =>
      have p1 : PostG RelT TS X W σ G1 H1 (if (keysB xs && decide ((PyData.tuple xs).depth ≤ 8) && ds.all tupB) = true then .ok (neg != ds.any fun z => decide (nk z = nk (.tuple xs))) else .bad) Q := p1
      split at p1
      · rename_i hc
        simp only [Bool.and_eq_true, decide_eq_true_eq] at hc
        obtain ⟨⟨kx, dx⟩, tb⟩ := hc
        rcases h2.ex with ⟨hne, h3⟩ | ⟨ps, h3, r3, h4, kb, dp⟩ | ⟨ys, es, e3, _⟩ | ⟨e3, _⟩
        · intro pins s σ' v u I rv ru
          obtain ⟨hD, _, _⟩ := (show _ ∧ _ ∧ _ from I.hok l _ h3)
          cases hD with
          | txt ys hT =>
            cases ys with
            | nil => exact absurd rfl hne.1
            | cons y ys =>
              rw [List.map_cons, List.all_cons, Bool.and_eq_true] at tb
              cases tb.1
        · intro pins s σ' v u I rv ru
          rw [hP, hw] at h3
          cases (show v = Value.ref xa from rv)
          cases (show u = Value.ref l from ru)
          have mem : (ds.any fun z => decide (nk z = nk (.tuple xs))) = decide (nk (.tuple xs) ∈ ps.map (·.2)) := by
            rw [← h4, nks_map, Bool.eq_iff_iff, List.any_eq_true, decide_eq_true_eq, List.mem_map]
            simp only [decide_eq_true_eq]
          have xk : KAt s.heap (nk (.tuple xs)) xa := ⟨key_at I _ _ _ ((Rp.tup sq rxs).mono g1.ok.le) kx rfl, Nat.le_trans (nk_depth _) dx⟩
          refine in_keys (keyO_get I h3) (keys_in I (r3.mono g1.ok.le) h4 kb dp) xk (by omega) fun tk' => ?_
          refine ⟨.bl (neg != decide (nk (.tuple xs) ∈ ps.map (·.2))), H1, I.tok _, rfl, _, rfl, ?_⟩
          rw [← mem]
          exact p1 _ G1 H1 (Gr.refl g1.ok) rfl
        · rw [e3] at tb
          cases tb
        · rw [e3] at tb
          cases tb
      · exact p1.elim
    | _ => exact p1.elim
  · exact p1.elim
theorem dt_inS (i : Nat) {x : Str} {p' : Pos} (hP : TS.P = X.prog) (hw : TS.w = X.w) (hu : X.A.units + 65 < cLine) (ha : DE TS X a fa) (hN : X.N[i]? = some x := by rfl) (hv : Vis X.env.scope x := by first | exact Or.inl rfl | exact Or.inr (Or.inl rfl) | exact Or.inr (Or.inr rfl)) (hd : (x == ("__debug__" : Str)) = false := by decide) (hcd : (x == ("__classdict__" : Str)) = false := by decide) :
    DT TS X (.Compare a [.In] [.Name x p'] pos) (eInS false i fa) := by
  refine ⟨?_⟩
  intro W ρ σ G H Q tk re ok post
  exact wpT_of (pt_cmpR (opr_wp _) (pe_wp X a) (pe_var hN hv hd hcd) rfl) (we_inS i (neg := false) hP hw hu ha hN tk re ok post)
theorem dt_notInS (i : Nat) {x : Str} {p' : Pos} (hP : TS.P = X.prog) (hw : TS.w = X.w) (hu : X.A.units + 65 < cLine) (ha : DE TS X a fa) (hN : X.N[i]? = some x := by rfl) (hv : Vis X.env.scope x := by first | exact Or.inl rfl | exact Or.inr (Or.inl rfl) | exact Or.inr (Or.inr rfl)) (hd : (x == ("__debug__" : Str)) = false := by decide) (hcd : (x == ("__classdict__" : Str)) = false := by decide) :
    DT TS X (.Compare a [.NotIn] [.Name x p'] pos) (eInS true i fa) := by
  refine ⟨?_⟩
  intro W ρ σ G H Q tk re ok post
  exact wpT_of (pt_cmpR (opr_wp _) (pe_wp X a) (pe_var hN hv hd hcd) rfl) (we_inS i (neg := true) hP hw hu ha hN tk re ok post)
theorem bt_set : bootBuiltins "set" = some (.type "set") := by decide +kernel
theorem setS_ok {i : Nat} {fe : En → Res D} {ρ : Frm} {ds : List D} (h : fe (purE ρ) = .ok (.list ds)) (ht : textsD (.list ds) = .ok ds) : sSetS i fe ρ = .ok (.next (ρ.set i (.own (.set ds)))) := by
  unfold sSetS
  rw [evP_ok h]
  show (textsD (.list ds)).bind _ = _
  rw [ht]
  rfl
end
end Pyr
set_option Elab.async false
set_option autoImplicit false
set_option linter.all false
set_option maxRecDepth 100000
set_option maxHeartbeats 2000000
namespace Pyr
open PySem PySem.Spec PyProof.Rows L2 Evl
structure FnTop (P : Program) (w : World) (K : PySem.W.Frag) (mg : Str → Option Value) (base : Heap) (f : Addr) (fd : FuncData) (ps : List Str) (sp : Sp) : Prop where
  run : ∀ (s : Shared) (H : Hp) (us : List Value) (vs : List V) (Q : VK) (E : XK), Env0 P w K mg base callerA [] s H → BindsTo s fd ⟨us, []⟩ (ps.zip us) → Vals vs us → sp vs H Q E → codeAny (model P w) callerA (.call (.ref f) ⟨us, []⟩) (CR (L2N.CX P w) [] P w H s Q E) s
section
variable {TS : TabList} {P : Program} {w : World} {K : PySem.W.Frag} {mg : Str → Option Value} {base : Heap} {qual : Str} {st : Stmt} {f : Addr} {N ps : List Str} {F : Frm → Res Fl} {k : Nat}
theorem fn_top {kV doc pm cdv ct oc : Value} {an od : Option Addr} {osl : Array (Option Value)} (hr : Room (k + 1) callerA)
    (lk : K.lookup f = some ⟨oc, od, .func (PySem.W.fnOf qual qual (defArgs st) (defBody st) (defScope st) .none kV doc pm an cdv ct), osl⟩) (hcd : PySem.W.codeIn K cdv qual = true) (S : FnScope N ps (defScope st))
    (body : ∀ (s : Shared) (H : Hp) (E : XK), Room k (callerA.deeper (envOfC qual (defScope st) s.heap.objs.size f cdv)) → DSs TS (cxOf (L2N.CX P w) P w K mg base N qual (defScope st) f cdv callerA [] s H E) (defBody st) F) :
    FnTop P w K mg base f (PySem.W.fnOf qual qual (defArgs st) (defBody st) (defScope st) .none kV doc pm an cdv ct) ps (spD TS K mg (defM ps.length N.length F)) := by
  refine ⟨fun s H us vs Q E e0 hb rv sp => ?_⟩
  obtain ⟨G, ds, rs, ok, post⟩ := sp
  unfold defM at post
  split at post
  case isFalse => exact post.elim
  rename_i hlen
  have hps : vs.length = ps.length := by rw [rs.len, hlen]
  have inK : K.In s.heap := e0.mod.kin.keeps fun b o e => (e0.bs b o e).1
  have noLim : s.heap.NoLimit := e0.mod.nolimit.keeps fun b o e => (e0.bs b o e).1
  refine codeAny_call_function hr.depth (inK _ _ lk) rfl S.co S.gen rfl (PySem.W.codeRec_of inK hcd) (hb _ _ _ _ (wpAny_newFunctionEnv_cells S.kind (fun y hy => ?_) fun env he s1 x => ?_))
  · exact (S.par y.1 (List.of_mem_zip hy).1).imp id fun q => ⟨q, PySem.W.cellsFrom_some _ _ _ (.inl q)⟩
  · subst he
    refine ⟨noLim.keeps x.toInCall.keep, codeAny_func ?_⟩
    have I := inv_start (CX := L2N.CX P w) (qual := qual) (f := f) (cd := cdv) (E := E) S hr.hd e0 hps rv x
    have hbody := body s H E (hr.deeper _) (fun cls d _ H => E cls d H) (frm0 N.length ds) (L2.start N vs) G H G H (fun _ => []) { nx := fun _ H' => Q .non H', rt := Q } (takes_of rfl rfl rfl rfl) (SI.start ok rs) (by
      revert post
      generalize F (frm0 N.length ds) = r_
      intro post
      induction r_ with
      | ok fl =>
        cases fl with
        | next ρ => exact fun σ' G' H' fp' _ s' => post .non G' H' s'.gr .non
        | ret rv => cases rv <;> exact post
        | brk ρ => exact post.elim
        | cont ρ => exact post.elim
      | exc c fs =>
        exact fun C d _ G' H' m g r => post C d G' H' m g r
      | bad =>
        exact post.elim
      | alt f_ ih => exact fun i => ih i (post i))
    refine wpAny_mono ((pss_wp _ _).run [] s1 (L2.start N vs) H _ I hbody) (fun fl s' hs => ?_) fun e s' hs => hs
    cases fl with
    | ret u =>
      obtain ⟨v, σ', H', J, r, q⟩ := hs
      exact ⟨v, H', J.os, J.bare, J.base, J.hok, r, q⟩
    | next =>
      obtain ⟨σ', H', J, q⟩ := hs
      exact ⟨V.non, H', J.os, J.bare, J.base, J.hok, rfl, q⟩
    | brk => exact hs.choose_spec.choose_spec.2.elim
    | cont => exact hs.choose_spec.choose_spec.2.elim
end
def H0 (K : PySem.W.Frag) (T : List Addr) (a : Addr) (ob : Obj) (ns : List Int) : Hp := fun b => if b ∈ T then some (.tbl #[]) else if b = a ∧ K.lookup a = none then some (.frz ob (.lst (ns.map V.int))) else none
section
variable {K : PySem.W.Frag} {T : List Addr} {a : Addr} {ob : Obj} {ns : List Int}
theorem H0_tab {b : Addr} (h : b ∈ T) : H0 K T a ob ns b = some (.tbl #[]) := if_pos h
theorem H0_cases (b : Addr) : (b ∈ T ∧ H0 K T a ob ns b = some (.tbl #[])) ∨ (b ∉ T ∧ b = a ∧ K.lookup a = none ∧ H0 K T a ob ns b = some (.frz ob (.lst (ns.map V.int)))) ∨ (b ∉ T ∧ H0 K T a ob ns b = none) := by
  by_cases h : b ∈ T
  · exact .inl ⟨h, if_pos h⟩
  · by_cases h2 : b = a ∧ K.lookup a = none
    · exact .inr (.inl ⟨h, h2.1, h2.2, (if_neg h).trans (if_pos h2)⟩)
    · exact .inr (.inr ⟨h, (if_neg h).trans (if_neg h2)⟩)
end
theorem call_top {P : Program} {w : World} {K : PySem.W.Frag} {mg mb : Str → Option Value} {fa a : Addr} {cs : List (Addr × Addr)} {fd : FuncData} {x : Str} {sp : Sp} {s₁ : Shared} {vs : List Value} {ns : List Int}
    (KX : K.In s₁.heap) (hns : s₁.heap.Ns mainGlobals mg) (hb : s₁.heap.Ns builtinsNs mb) (hbb : ∀ x : Str, x ≠ "__name__" → mb x = bootBuiltins x) (hlim : s₁.heap.NoLimit) (hg : s₁.gens = #[])
    (hT : ∀ p ∈ cs, PySem.W.CodeHd s₁.heap p.1 p.2 ∧ s₁.heap.get? p.2 = some (PySem.W.tabObj #[])) (nT : ∀ p ∈ cs, K.lookup p.2 = none)
    (hbm : ∃ (bm : Addr) (ob : Obj), mg "__builtins__" = some (.ref bm) ∧ bm ≠ builtinsNs ∧ s₁.heap.get? bm = some ob ∧ ob.cls = .type "module" ∧ ob.dict = some builtinsNs ∧ ob.data = .plain)
    (ha : s₁.heap.get? a = some { cls := .type "list", data := .seq vs.toArray }) (hi : IntsAre vs ns) (hl : ns.length ≤ sizeLine)
    (F : ∀ base : Heap, K.In base → base.Ns mainGlobals mg → (∀ p ∈ cs, GxR.TabB base mg p.1 p.2) → FnTop P w K mg base fa fd [x] sp) (hbind : ∀ (s : Shared) (u : Value), BindsTo s fd ⟨[u], []⟩ [(x, u)])
    (hsp : ∀ H : Hp, (∀ p ∈ cs, H p.2 = some (.tbl #[])) → SqL K H a (ns.map V.int) → sp [.ref a] H (fun v _ => v = .bl true) fun _ _ _ => False) :
    codeAny (model P w) callerA (.call (.ref fa) ⟨[.ref a], []⟩) (fun r s' => r = .ok (.ret (.bool true)) ∧ OldK s₁.heap s'.heap ∧ s'.os = s₁.os ∧ AllBare s'.gens) s₁ := by
  generalize hob : ({ cls := .type "list", data := .seq vs.toArray } : Obj) = ob at ha
  have tabAt : ∀ b ∈ cs.map (·.2), s₁.heap.get? b = some (PySem.W.tabObj #[]) := fun b h => by
    obtain ⟨p, hp, rfl⟩ := List.mem_map.mp h
    exact (hT p hp).2
  have aOut : a ∉ cs.map (·.2) := fun z => by
    have q := tabAt a z
    rw [ha, ← hob] at q
    cases congrArg Obj.data (Option.some.inj q)
  generalize hH : H0 K (cs.map (·.2)) a ob ns = H
  have cas := H0_cases (K := K) (T := cs.map (·.2)) (a := a) (ob := ob) (ns := ns)
  simp only [hH] at cas
  have tabs : ∀ p ∈ cs, H p.2 = some (.tbl #[]) := fun p hp => hH ▸ H0_tab (List.mem_map.mpr ⟨p, hp, rfl⟩)
  have off : ∀ {b : Addr} {o : Obj}, s₁.heap.get? b = some o → (∀ us n, o.data ≠ .seq us n) → o.data ≠ .fields #[] → H b = none := fun {b o} e n1 n2 => by
    rcases cas b with ⟨h, _⟩ | ⟨_, h, _⟩ | ⟨_, h⟩
    · rw [tabAt b h] at e
      exact (n2 (by rw [← Option.some.inj e])).elim
    · rw [h, ha] at e
      exact (n1 vs.toArray 0 (by rw [← Option.some.inj e, ← hob])).elim
    · exact h
  have under : ∀ {b : Addr} {m : Str → Option Value}, s₁.heap.Ns b m → (hidT s₁.heap H).Ns b m := fun {b m} ⟨o, es, ep, e, d, r⟩ =>
    ⟨o, es, ep, hidT_get e (off e (fun us n z => by rw [d] at z; cases z) fun z => by rw [d] at z; cases z), d, r⟩
  have kin : K.In (hidT s₁.heap H) := fun b o e => hidT_get (KX b o e) (by
    rcases cas b with ⟨h, _⟩ | ⟨_, h, n, _⟩ | ⟨_, h⟩
    · obtain ⟨p, hp, rfl⟩ := List.mem_map.mp h
      rw [nT p hp] at e
      cases e
    · rw [h, n] at e
      cases e
    · exact h)
  have md : L2.Mod K mg (hidT s₁.heap H) := ⟨kin, under hns, ⟨mb, under hb, hbb⟩, let ⟨mc, q1, q2⟩ := hlim; ⟨mc, under q1, q2⟩⟩
  have tb : ∀ p ∈ cs, GxR.TabB (hidT s₁.heap H) mg p.1 p.2 := fun p hp => by
    obtain ⟨hC, hP⟩ := hT p hp
    have ng : mainGlobals ≠ p.2 := fun z => by
      obtain ⟨o, es, ep, e, d, _⟩ := hns
      rw [z, hP] at e
      rw [← Option.some.inj e] at d
      cases d
    obtain ⟨o, us, file, tf, flags, tg, inF, text, tt, e1, r1, r2, r3, rest⟩ := hC
    have dat : ∀ {z : Data}, o.data = z → z = .fields us := fun z => by rw [← z, r2]
    refine ⟨⟨o, us, file, tf, flags, tg, inF, text, tt, hidT_get e1 (off e1 (fun us' n z => by cases dat z) fun z => ?_), r1, r2, r3, rest⟩, ?_, ng⟩
    · cases dat z
      simp at r3
    · obtain ⟨bm, oc, b1, b2, b3, b4, b5, b6⟩ := hbm
      refine ⟨bm, oc, b1, b2, fun q => ?_, fun q => ?_, hidT_get b3 (off b3 (fun us' n z => by rw [b6] at z; cases z) fun z => by rw [b6] at z; cases z), b4, b5, b6⟩
      · obtain ⟨o', es, ep, e, d, _⟩ := hns
        rw [← q, b3] at e
        rw [← Option.some.inj e, b6] at d
        cases d
      · rw [q, hP] at b3
        rw [← Option.some.inj b3] at b6
        cases b6
  have hS : SqL K H a (ns.map V.int) := by
    rcases cas a with ⟨h, _⟩ | ⟨_, _, _, h⟩ | ⟨_, h⟩
    · exact absurd h aOut
    · exact .inl (.inr ⟨ob, h⟩)
    · cases hk : K.lookup a with
      | none =>
        rw [← hH] at h
        have : H0 K (cs.map (·.2)) a ob ns a = some (.frz ob (.lst (ns.map V.int))) := (if_neg aOut).trans (if_pos ⟨rfl, hk⟩)
        rw [this] at h
        cases h
      | some o =>
        have e := KX a o hk
        rw [ha] at e
        have e := Option.some.inj e
        subst e
        subst hob
        exact .inr ⟨_, vs.toArray, _, hk, rfl, rfl, rfl, by rw [List.size_toArray, hi.length]; exact hl, by simpa using vals_ints hi⟩
  have hok : HOk P w H s₁.heap := fun b u e => by
    rcases cas b with ⟨h, q⟩ | ⟨_, h, _, q⟩ | ⟨_, q⟩
    · rw [q] at e
      cases e
      exact tabAt b h
    · rw [q] at e
      cases e
      subst h
      subst hob
      exact ⟨ha, by rw [List.length_map]; exact hl, vs, 0, vals_ints hi, ha⟩
    · rw [q] at e
      cases e
  have e0 : Env0 P w K mg (hidT s₁.heap H) callerA [] s₁ H := ⟨rfl, md, fun b o e => of_hidT e, Nat.le_of_eq (hidT_size _ _), trivial, fun b hb => (List.not_mem_nil (show b ∈ ([] : List Addr) from hb)).elim, hok, .of_eq hg⟩
  refine codeAny_mono ((F _ kin (under hns) tb).run s₁ H [.ref a] [.ref a] _ _ e0 (hbind s₁ (.ref a)) (.cons rfl .nil) (hsp H tabs hS)) fun r s' h => ?_
  cases r with
  | error e =>
    obtain ⟨_, _, _, _, _, _, _, _, _, _, _, _, z⟩ := h
    exact z.elim
  | ok fl =>
    cases fl with
    | ret u =>
      obtain ⟨v, H', os, bare, un, hok', rv, q⟩ := h
      subst q
      obtain rfl : u = Value.bool true := rv
      have tabIs : ∀ b ∈ cs.map (·.2), ∃ more : Array Value, s'.heap.get? b = some (PySem.W.tabObj more) := fun b hb => by
        obtain ⟨p, hp, rfl⟩ := List.mem_map.mp hb
        obtain ⟨more, z⟩ := un.tbls p.2 #[] (tabs p hp)
        exact ⟨_, hok' p.2 _ z⟩
      have same : ∀ b o, b ∉ cs.map (·.2) → s₁.heap.get? b = some o → s'.heap.get? b = some o := fun b o nb e => by
        rcases cas b with ⟨h, _⟩ | ⟨_, h, _, z⟩ | ⟨_, z⟩
        · exact absurd h nb
        · have z1 := (hok b _ z).1
          have z2 := (hok' b _ (un.frzs b ob _ z)).1
          rw [z1] at e
          rw [z2, e]
        · exact un.keep b o e z (fun y => nomatch y) (fun y => nomatch y)
      refine ⟨rfl, ⟨fun b o e => ?_, fun b o e => ?_⟩, os, bare⟩
      · by_cases hb : b ∈ cs.map (·.2)
        · obtain ⟨more, hm⟩ := tabIs b hb
          obtain ⟨p, hp, rfl⟩ := List.mem_map.mp hb
          rw [(hT p hp).2] at e
          have e := Option.some.inj e
          subst e
          exact .inr (.inl ⟨((hT p hp).1.tab (hT p hp).2).isCodeTable, rfl, #[], more, rfl, by rw [Array.empty_append]; exact hm⟩)
        · exact .inl (same b o hb e)
      · by_cases hb : b ∈ cs.map (·.2)
        · obtain ⟨more, hm⟩ := tabIs b hb
          exact ⟨_, hm⟩
        · exact ⟨o, same b o hb e⟩
    | _ => exact h.elim
theorem law_endG {l : PySem.W.OpenLaw} {q : Program} {loose : List Str} {XP : (Str → Option Value) → Heap → Prop} {YP : World → Heap → Prop} {d : DefRec} {K : Params → PySem.W.Frag} {x : Str}
    (hn : l.most = some 63) (hdf : d.params.defaults = []) (hY : ∀ (w : World) (h : Heap), YP w h → (K w.params).In h)
    (F : ∀ (w : World) (mg : Str → Option Value) (fa : Addr) (h : Heap), (K w.params).In h → h.Ns mainGlobals mg → mg d.name = some (.ref fa) →
      (∀ (y : Str) (dd : DefRec) (c P : Addr), (recsOf q).find? (fun e => e.name == y) = some dd → PySem.W.tabIn (K w.params) y = some (c, P) → PySem.W.CodeHd h c P ∧ h.get? P = some (PySem.W.tabObj #[])) →
      ∃ (fd : FuncData) (cs : List (Addr × Addr)), (∀ p ∈ cs, PySem.W.CodeHd h p.1 p.2 ∧ h.get? p.2 = some (PySem.W.tabObj #[])) ∧ (∀ p ∈ cs, (K w.params).lookup p.2 = none) ∧ (∀ (s : Shared) (u : Value), BindsTo s fd ⟨[u], []⟩ [(x, u)]) ∧
        ∀ base : Heap, (K w.params).In base → base.Ns mainGlobals mg → (∀ p ∈ cs, GxR.TabB base mg p.1 p.2) → FnTop l.prog w (K w.params) mg base fa fd [x] (spLawT (K w.params) (cs.map (·.2)))) :
    PySem.W.WalkO q loose XP YP l.row.toRowW d [] (fun f vs => PySem.call f vs) := by
  refine Att.attach_callB (n := 63) hn hdf fun w s₀ s₁ mg mb fa o pm cd doc a vs ns G Y ho hd hcd hmg hobj hints hlen hbits hg => ?_
  have KX := hY w _ Y
  obtain ⟨fd, cs, hT, nT, hb, hF⟩ := F w mg fa _ KX G.T.g hmg fun y dd c P h1 h2 => PySem.W.tab_of G.T KX h1 h2
  exact call_top KX G.T.g G.T.b G.T.builtins G.T.nolimit hg hT nT G.T.bmain hobj hints (Nat.le_trans hlen (by decide)) hF hb
    fun H hH hS => ⟨a, ns, rfl, hS, hlen, fun P hP => by
      obtain ⟨p, hp, rfl⟩ := List.mem_map.mp hP
      exact hH p hp, fun _ => rfl⟩
theorem top_imp {TS : TabList} {P : Program} {w : World} {K : PySem.W.Frag} {mg : Str → Option Value} {base : Heap} {f : Addr} {fd : FuncData} {ps : List Str} {m : List D → Res RV} (F : FnTop P w K mg base f fd ps (spD TS K mg m))
    (hm : ∀ ns : List Int, ns.length ≤ 63 → (m [scriptD ns]).All (· = .val (.bool true))) (hcs : TS.cs = [] := by rfl) : FnTop P w K mg base f fd ps (spLawT K TS.l) := by
  refine ⟨fun s H us vs Q E e0 hb rv sp => F.run s H us vs Q E e0 hb rv ?_⟩
  obtain ⟨a, ns, rfl, hs, hl, ht, q⟩ := sp
  refine ⟨noTb H, [scriptD ns], .cons (.lst (sql_noTb hs) (rps_ints ns)) .nil, ⟨noTb_ex H, ⟨fun P hP => TblOk.empty (ht P hP), fun _ h => by rw [hcs] at h; exact nomatch h⟩, fun _ _ h => (noTb_some.mp h).2⟩, ?_⟩
  have hm := hm ns hl
  revert hm
  generalize m [scriptD ns] = r
  intro hm
  induction r with
  | ok x =>
    rw [show x = .val (.bool true) from hm]
    intro v G' H' _ r
    cases r
    exact q H'
  | exc c fs => exact hm.elim
  | bad => exact hm.elim
  | alt f ih => exact fun i => ih i (hm i)
theorem law_finG {P : Program} {w : World} {K : PySem.W.Frag} {mg : Str → Option Value} {h : Heap} {st : Stmt} {fa : Addr} {x : Str} {k : Nat} {cs : List (Addr × Addr)} {N : List Str} {F : Frm → Res Fl} (X : K.In h) (G : h.Ns mainGlobals mg) (hfa : mg "law" = some (.ref fa)) (d : DefIn K "law" st) (b : BindOk "law" st [x])
    (hT : ∀ p ∈ cs, PySem.W.CodeHd h p.1 p.2 ∧ h.get? p.2 = some (PySem.W.tabObj #[])) (nT : ∀ p ∈ cs, K.lookup p.2 = none) (S : FnScope N [x] (defScope st)) (hr : Room (k + 1) callerA)
    (body : ∀ (base : Heap), (∀ p ∈ cs, GxR.TabB base mg p.1 p.2) → ∀ (f : Addr) (cdv : Value) (s : Shared) (H : Hp) (E : XK), Room k (callerA.deeper (envOfC "law" (defScope st) s.heap.objs.size f cdv)) → DSs (TabList.mk (cs.map (·.2)) P w) (cxOf (L2N.CX P w) P w K mg base N "law" (defScope st) f cdv callerA [] s H E) (defBody st) F)
    (hm : ∀ ns : List Int, ns.length ≤ 63 → (defM 1 N.length F [scriptD ns]).All (· = .val (.bool true))) :
    ∃ (fd : FuncData) (cs : List (Addr × Addr)), (∀ p ∈ cs, PySem.W.CodeHd h p.1 p.2 ∧ h.get? p.2 = some (PySem.W.tabObj #[])) ∧ (∀ p ∈ cs, K.lookup p.2 = none) ∧ (∀ (s : Shared) (u : Value), BindsTo s fd ⟨[u], []⟩ [(x, u)]) ∧
        ∀ base : Heap, K.In base → base.Ns mainGlobals mg → (∀ p ∈ cs, GxR.TabB base mg p.1 p.2) → FnTop P w K mg base fa fd [x] (spLawT K (cs.map (·.2))) := by
  obtain ⟨f, oc, od, an, sl, kV, doc, pm, cd, ct, h1, h2, h3, h4⟩ := d
  have e := hfa.symm.trans (PySem.W.mg_of X G h1)
  cases e
  exact ⟨_, cs, hT, nT, fun s u => .of_eq (b kV doc pm an cd ct [u] rfl), fun base _ _ ht => top_imp (fn_top hr h2 h3 S fun s H E hr => body base ht _ _ s H E hr) hm⟩
section
variable {TS : TabList} {X : Cx}
end
end Pyr
set_option Elab.async false
set_option autoImplicit false
set_option linter.all false
set_option maxRecDepth 100000
set_option maxHeartbeats 2000000
namespace Pyr
open PySem PySem.Spec PyProof.Rows L2 Evl
theorem hid_ex {α : Type} (x : α) : ∃ y, y = x := ⟨x, rfl⟩
noncomputable def hid {α : Type} (x : α) : α := (hid_ex x).choose
theorem hid_eq {α : Type} (x : α) : hid x = x := (hid_ex x).choose_spec
theorem Known.cast {TS : TabList} {P : Program} {w : World} {K : PySem.W.Frag} {mg : Str → Option Value} {base : Heap} {k : Nat} {x : Str} {ps : List Str} {m m' : List D → Res RV} (e : m = m') (h : Known TS P w K mg base k x ps m') : Known TS P w K mg base k x ps m := e ▸ h
def killF : List Nat → Frm → Frm
  | [], ρ => ρ
  | i :: is, ρ => killF is (ρ.set i .emp)
def sKill (is : List Nat) (F : Frm → Res Fl) : Frm → Res Fl := fun ρ => F (killF is ρ)
section
variable {TS : TabList} {K : PySem.W.Frag} {G_0 H_0 G H : Hp} {fp : Nat → List Addr}
theorem SI.kill1 {ρ : Frm} {σ : L2.St} (i : Nat) (s : SI TS K G_0 H_0 ρ σ G H fp) : SI TS K G_0 H_0 (ρ.set i .emp) σ G H fp := by
  have back : ∀ {j : Nat} {x : Sl}, x ≠ .emp → (ρ.set i .emp)[j]? = some x → ρ[j]? = some x := fun {j x} hx h => by
    rcases set_at h with ⟨_, e, _⟩ | ⟨_, h⟩
    · exact absurd e.symm hx
    · exact h
  exact ⟨s.gr, by rw [List.length_set]; exact s.len, fun j d h => s.val j d (back (by simp) h), fun j o h => s.own j o (back (by simp) h), fun j l o u h1 h2 => s.apart j l o u (back (by simp) h1) (back (by simp) h2), fun j o h => s.free j o (back (by simp) h)⟩
theorem SI.kill {σ : L2.St} : ∀ (is : List Nat) {ρ : Frm}, SI TS K G_0 H_0 ρ σ G H fp → SI TS K G_0 H_0 (killF is ρ) σ G H fp
  | [], _, s => s
  | i :: is, _, s => SI.kill is (s.kill1 i)
end
section
variable {TS : TabList} {X : Cx} {rest : List Stmt} {F : Frm → Res Fl} {pos : Pos}
theorem dss_kill (is : List Nat) (h : DSs TS X rest F) : DSs TS X rest (sKill is F) := .mk fun W ρ σ G_0 H_0 G H fp D tk s p => h W _ σ G_0 H_0 G H fp D tk (s.kill is) p
end
theorem run_kill0 {ρ : Frm} : killF [] ρ = ρ := rfl
theorem run_killS {i : Nat} {is : List Nat} {ρ : Frm} : killF (i :: is) ρ = killF is (ρ.set i .emp) := rfl
def Goes (F : Frm → Res Fl) (ρ ρ' : Frm) : Prop := F ρ = .ok (.next ρ') ∨ F ρ = .ok (.cont ρ')
theorem forF_go {t : Tg} {F : Frm → Res Fl} {d : D} {ds : List D} {ρ ρ1 ρ2 : Frm} (h : tgF t d ρ = .ok ρ1) (g : Goes F ρ1 ρ2) : forF t F (d :: ds) ρ = forF t F ds ρ2 := by
  show ((tgF t d ρ).bind fun ρ1 => (F ρ1).bind _) = _
  rw [h]
  show ((F ρ1).bind _) = _
  rcases g with g | g <;> rw [g] <;> rfl
theorem forF_fold {S α : Type} {t : Tg} {F : Frm → Res Fl} (en : α → D) (fr : S → Frm) (step : S → α → S) (I : S → Prop) :
    ∀ (xs : List α) (s : S), I s → (∀ s x, x ∈ xs → I s → (∃ ρ1, tgF t (en x) (fr s) = .ok ρ1 ∧ Goes F ρ1 (fr (step s x))) ∧ I (step s x)) →
      forF t F (xs.map en) (fr s) = .ok (.next (fr (xs.foldl step s))) ∧ I (xs.foldl step s)
  | [], s, hi, _ => ⟨rfl, hi⟩
  | x :: xs, s, hi, h => by
    obtain ⟨⟨ρ1, h1, h2⟩, h3⟩ := h s x List.mem_cons_self hi
    obtain ⟨e, i⟩ := forF_fold en fr step I xs (step s x) h3 fun s y hy => h s y (List.mem_cons_of_mem _ hy)
    exact ⟨(forF_go h1 h2).trans e, i⟩
theorem forF_find {α : Type} {t : Tg} {F : Frm → Res Fl} {ρ : Frm} (en : α → D) (p : α → Bool) (r : α → RV) :
    ∀ (xs : List α), (∀ x ∈ xs, ∃ ρ1, tgF t (en x) ρ = .ok ρ1 ∧ (p x = true → F ρ1 = .ok (.ret (r x))) ∧ (p x = false → Goes F ρ1 ρ)) →
      forF t F (xs.map en) ρ = match xs.find? p with
        | some x => .ok (.ret (r x))
        | none => .ok (.next ρ)
  | [], _ => rfl
  | x :: xs, h => by
    obtain ⟨ρ1, h1, h2, h3⟩ := h x List.mem_cons_self
    rw [List.map_cons, List.find?_cons]
    cases hp : p x with
    | true => exact forF_ret h1 (h2 hp)
    | false =>
      rw [forF_go h1 (h3 hp)]
      exact forF_find en p r xs fun y hy => h y (List.mem_cons_of_mem _ hy)
end Pyr
set_option Elab.async false
set_option autoImplicit false
set_option linter.all false
set_option maxRecDepth 100000
set_option maxHeartbeats 2000000
namespace Pyr
open PySem PySem.Spec PyProof.Rows L2 Evl
theorem forF_exN {S : Type} {t : Tg} {F : Frm → Res Fl} (fr : S → Frm) (I : Nat → S → Prop) :
    ∀ (m lo : Nat) (s : S), I lo s → (∀ k s, lo ≤ k → k < lo + m → I k s → ∃ s' ρ1, tgF t (.int (k : Int)) (fr s) = .ok ρ1 ∧ Goes F ρ1 (fr s') ∧ I (k + 1) s') →
      ∃ s', forF t F (upto (lo : Int) m) (fr s) = .ok (.next (fr s')) ∧ I (lo + m) s'
  | 0, lo, s, hi, _ => ⟨s, rfl, hi⟩
  | m + 1, lo, s, hi, h => by
    obtain ⟨s1, ρ1, h1, h2, h3⟩ := h lo s (Nat.le_refl _) (by omega) hi
    obtain ⟨s2, e, i⟩ := forF_exN fr I m (lo + 1) s1 h3 fun k s hk hk2 => h k s (by omega) (by omega)
    rw [show lo + 1 + m = lo + (m + 1) by omega] at i
    refine ⟨s2, ?_, i⟩
    show forF t F (.int (lo : Int) :: upto ((lo : Int) + 1) m) (fr s) = _
    rw [forF_go h1 h2]
    exact e
theorem forF_exL {S : Type} {t : Tg} {F : Frm → Res Fl} (fr : S → Frm) (I : Nat → S → Prop) :
    ∀ (ds : List D) (lo : Nat) (s : S), I lo s → (∀ k s d, ds[k]? = some d → I (lo + k) s → ∃ s' ρ1, tgF t d (fr s) = .ok ρ1 ∧ Goes F ρ1 (fr s') ∧ I (lo + k + 1) s') →
      ∃ s', forF t F ds (fr s) = .ok (.next (fr s')) ∧ I (lo + ds.length) s'
  | [], lo, s, hi, _ => ⟨s, rfl, hi⟩
  | d :: ds, lo, s, hi, h => by
    obtain ⟨s1, ρ1, h1, h2, h3⟩ := h 0 s d rfl hi
    obtain ⟨s2, e, i⟩ := forF_exL fr I ds (lo + 1) s1 h3 fun k s d hd hk => by
      obtain ⟨s', q⟩ := h (k + 1) s d hd (by rw [show lo + (k + 1) = lo + 1 + k by omega]; exact hk)
      rw [show lo + (k + 1) + 1 = lo + 1 + k + 1 by omega] at q
      exact ⟨s', q⟩
    rw [show lo + 1 + ds.length = lo + (d :: ds).length by rw [List.length_cons]; omega] at i
    refine ⟨s2, ?_, i⟩
    rw [forF_go h1 h2]
    exact e
theorem compF_exP {t : Tg} {tt : En → Res Bool} {fe : En → Res D} {ρ : En} (P : D → D → Prop) :
    ∀ ds : List D, (∀ d ∈ ds, ∃ ρ1 y, tgE t d ρ = .ok ρ1 ∧ tt ρ1 = .ok true ∧ fe ρ1 = .ok y ∧ P d y) → ∃ ys, compF t tt fe ρ ds = .ok ys ∧ ys.length = ds.length ∧ ∀ y ∈ ys, ∃ d ∈ ds, P d y
  | [], _ => ⟨[], rfl, rfl, fun y h => nomatch h⟩
  | d :: ds, h => by
    obtain ⟨ρ1, y, h1, h2, h3, h4⟩ := h d List.mem_cons_self
    obtain ⟨ys, e, hl, hy⟩ := compF_exP P ds fun d hd => h d (List.mem_cons_of_mem _ hd)
    refine ⟨y :: ys, ?_, by rw [List.length_cons, List.length_cons, hl], fun z hz => ?_⟩
    · show (tgE t d ρ).bind _ = _
      rw [h1]
      show (noX (tt ρ1)).bind _ = _
      rw [h2]
      show (noX (fe ρ1)).bind _ = _
      rw [h3]
      show (compF t tt fe ρ ds).bind _ = _
      rw [e]
      rfl
    · rcases List.mem_cons.mp hz with rfl | hz
      · exact ⟨d, List.mem_cons_self, h4⟩
      · obtain ⟨d', a, b⟩ := hy z hz
        exact ⟨d', List.mem_cons_of_mem _ a, b⟩
theorem compF_en {α : Type} {t : Tg} {tt : En → Res Bool} {fe : En → Res D} {ρ : En} (e g : α → D) : ∀ xs : List α, (∀ x ∈ xs, ∃ ρ1, tgE t (e x) ρ = .ok ρ1 ∧ tt ρ1 = .ok true ∧ fe ρ1 = .ok (g x)) → compF t tt fe ρ (xs.map e) = .ok (xs.map g)
  | [], _ => rfl
  | x :: xs, h => by
    obtain ⟨ρ1, h1, h2, h3⟩ := h x List.mem_cons_self
    show (tgE t (e x) ρ).bind _ = _
    rw [h1]
    show (noX (tt ρ1)).bind _ = _
    rw [h2]
    show (noX (fe ρ1)).bind _ = _
    rw [h3]
    show (compF t tt fe ρ (xs.map e)).bind _ = _
    rw [compF_en e g xs fun y hy => h y (List.mem_cons_of_mem _ hy)]
    rfl
theorem compF_some {α : Type} {t : Tg} {tt : En → Res Bool} {fe : En → Res D} {ρ : En} (e g : α → D) (p : α → Bool) : ∀ xs : List α, (∀ x ∈ xs, ∃ ρ1, tgE t (e x) ρ = .ok ρ1 ∧ tt ρ1 = .ok (p x) ∧ (p x = true → fe ρ1 = .ok (g x))) → compF t tt fe ρ (xs.map e) = .ok ((xs.filter p).map g)
  | [], _ => rfl
  | x :: xs, h => by
    obtain ⟨ρ1, h1, h2, h3⟩ := h x List.mem_cons_self
    have ih := compF_some e g p xs fun y hy => h y (List.mem_cons_of_mem _ hy)
    show (tgE t (e x) ρ).bind _ = _
    rw [h1]
    show (noX (tt ρ1)).bind _ = _
    rw [h2, List.filter_cons]
    cases hp : p x with
    | true =>
      show (noX (fe ρ1)).bind _ = _
      rw [h3 hp]
      show (compF t tt fe ρ (xs.map e)).bind _ = _
      rw [ih]
      rfl
    | false => exact ih
theorem lComp_ok {own : List Nat} {t : Tg} {fi : En → Res (List D)} {tt : En → Res Bool} {fe : En → Res D} {ρ : En} {ds : List D} {r : Res (List D)} (h : fi ρ = .ok ds) (hl : ds.length ≤ 100000) (hc : compF t tt fe (wipeE ρ own) ds = r) : lComp own t fi tt fe ρ = r := by
  unfold lComp
  rw [h, bind_ok, okL_ok hl, hc]
theorem eJoin_ok {fa fb : En → Res D} {ρ : En} {a : Str} {x : D} {r : Res D} (ha : fa ρ = .ok (.str a)) (hb : fb ρ = .ok x) (h : joinD a x = r) : eJoin fa fb ρ = r := by
  unfold eJoin
  rw [ha]
  show (fb ρ).bind _ = _
  rw [hb]
  exact h
theorem mapL_ok {f : En → Res (List D)} {ρ : En} {ds : List D} (h : f ρ = .ok ds) : (f ρ).map PyData.list = .ok (.list ds) := by rw [h]; rfl
theorem retL_ok {f : En → Res (List D)} {ρ : Frm} {ds : List D} (h : f (purE ρ) = .ok ds) : sRetL f ρ = .ok (.ret (.own ds)) := by unfold sRetL; rw [evL_ok h]; rfl
theorem forN {t : Tg} {fi : En → Res (List D)} {F : Frm → Res Fl} {ρ : Frm} {r : Res Fl} (n : Nat) (hn : n ≤ 100000) (h : fi (frzE ρ) = r1D (.int (n : Int))) (e : forF t F (upto 0 n) ρ = r) : sForR t fi F ρ = r :=
  (forR_ok (h.trans (r1D_nat hn)) (upto_flat _ _)).trans e
theorem upto_map (n : Nat) : ∀ lo : Nat, upto (lo : Int) n = (List.range' lo n).map fun k => .int (k : Int) := by
  induction n with
  | zero => exact fun _ => rfl
  | succ n ih =>
    intro lo
    show PyData.int (lo : Int) :: upto ((lo : Int) + 1) n = _
    rw [show ((lo : Int) + 1) = ((lo + 1 : Nat) : Int) by omega, ih (lo + 1)]
    rfl
theorem run_flI {i : Int} : flat0 (.int i) = true := rfl
theorem run_flB {b : Bool} : flat0 (.bool b) = true := rfl
theorem run_flS {x : Str} : flat0 (.str x) = true := rfl
theorem run_flN : flat0 .none = true := rfl
theorem run_fSu {xs ys : List D} : frzS (.own (.tup [xs, ys])) = some (.tuple [.list xs, .list ys]) := rfl
theorem run_pSu {dss : List (List D)} : purS (.own (.tup dss)) = none := rfl
mutual
def fD : Nat → D → Bool
  | _, .none => true
  | _, .bool _ => true
  | _, .int i => decide (i.natAbs < 2 ^ 64)
  | _, .str x => PyData.strOk x
  | 0, .list _ => false
  | n + 1, .list ds => fDs n ds
  | 0, .tuple _ => false
  | n + 1, .tuple ds => fDs n ds
  | _, .dict _ => false
def fDs : Nat → List D → Bool
  | _, [] => true
  | n, d :: ds => fD n d && fDs n ds
end
mutual
theorem fD_ok : ∀ (n : Nat) (d : D), fD n d = true → okD n d = true ∧ d.showable = true
  | _, .none, _ => ⟨rfl, rfl⟩
  | _, .bool _, _ => ⟨by simp [okD], rfl⟩
  | n, .int i, h => ⟨by simp [okD], by
    have h : i.natAbs < 2 ^ 64 := by simpa [fD] using h
    refine decide_eq_true ?_
    by_cases h0 : i.natAbs = 0
    · rw [h0]; decide
    · have := (Nat.log2_lt h0).mpr h
      omega⟩
  | n, .str x, h => ⟨by simpa [okD, fD] using h, rfl⟩
  | 0, .list _, h => by simp [fD] at h
  | n + 1, .list ds, h => by simpa [okD, PyData.showable] using fDs_ok n ds (by simpa [fD] using h)
  | 0, .tuple _, h => by simp [fD] at h
  | n + 1, .tuple ds, h => by simpa [okD, PyData.showable] using fDs_ok n ds (by simpa [fD] using h)
  | n, .dict _, h => by simp [fD] at h
theorem fDs_ok : ∀ (n : Nat) (ds : List D), fDs n ds = true → okDs n ds = true ∧ PyData.showableAll ds = true
  | _, [], _ => ⟨rfl, rfl⟩
  | n, d :: ds, h => by
    rw [fDs, Bool.and_eq_true] at h
    obtain ⟨a, b⟩ := fD_ok n d h.1
    obtain ⟨c, e⟩ := fDs_ok n ds h.2
    exact ⟨by rw [okDs, a, c]; rfl, by rw [PyData.showableAll, b, e]; rfl⟩
end
theorem fDs_all {n : Nat} : ∀ {ds : List D}, (∀ d ∈ ds, fD n d = true) → fDs n ds = true
  | [], _ => rfl
  | d :: ds, h => by
    rw [fDs, h d List.mem_cons_self, fDs_all fun e he => h e (List.mem_cons_of_mem _ he)]
    rfl
mutual
theorem fD_up : ∀ (n m : Nat) (d : D), n ≤ m → fD n d = true → fD m d = true
  | _, _, .none, _, _ => by simp [fD]
  | _, _, .bool _, _, _ => by simp [fD]
  | _, _, .int i, _, h => by simpa [fD] using h
  | _, _, .str x, _, h => by simpa [fD] using h
  | 0, _, .list _, _, h => by simp [fD] at h
  | n + 1, 0, .list ds, hm, h => absurd hm (by omega)
  | n + 1, m + 1, .list ds, hm, h => by
    simp only [fD] at h ⊢
    exact fDs_up n m ds (by omega) h
  | 0, _, .tuple _, _, h => by simp [fD] at h
  | n + 1, 0, .tuple ds, hm, h => absurd hm (by omega)
  | n + 1, m + 1, .tuple ds, hm, h => by
    simp only [fD] at h ⊢
    exact fDs_up n m ds (by omega) h
  | _, _, .dict _, _, h => by simp [fD] at h
theorem fDs_up : ∀ (n m : Nat) (ds : List D), n ≤ m → fDs n ds = true → fDs m ds = true
  | _, _, [], _, _ => rfl
  | n, m, d :: ds, hm, h => by
    rw [fDs, Bool.and_eq_true] at h ⊢
    exact ⟨fD_up n m d hm h.1, fDs_up n m ds hm h.2⟩
end
theorem fD_okd {n : Nat} {d : D} (h : fD n d = true) (hn : n ≤ 60) : okd d = true := (fD_ok 60 d (fD_up n 60 d hn h)).1
theorem run_nx {α : Type} {a : α} : noX (.ok a) = Res.ok a := rfl
theorem run_dt {α : Type} {a : α} : det (.ok a) = Res.ok a := rfl
end Pyr
local macro_rules
  | `(tactic| dsimp! [$ts,*]) => `(tactic| simp -implicitDefEqProofs (disch := omega) only [Pyr.run_nx, Pyr.run_dt, Pyr.run_fSu, Pyr.run_pSu, Pyr.run_flI, Pyr.run_flB, Pyr.run_flS, Pyr.run_flN, Pyr.sSeq, Pyr.sKill, Pyr.run_kill0, Pyr.run_killS, Pyr.sIf, Pyr.sSet, Pyr.sSetL, Pyr.sRet, Pyr.sRetL, Pyr.sRetN, Pyr.sRetO, Pyr.sDrop, Pyr.sApp, Pyr.sNext, Pyr.sFrz, Pyr.sSetT, Pyr.tgF, Pyr.setsF, Pyr.evP, Pyr.evL, Pyr.evT, Pyr.bare, Pyr.eC, Pyr.e1, Pyr.e2, Pyr.eN, Pyr.aC, Pyr.a0, Pyr.eIf, Pyr.eAnd, Pyr.eOr, Pyr.eNot, Pyr.eChain, Pyr.tE, Pyr.tNotR, Pyr.tAndR, Pyr.tOrR, Pyr.eCall, Pyr.lCall, Pyr.iF, Pyr.iF2, Pyr.lN, Pyr.lF, Pyr.eFs, Pyr.jC, Pyr.j0, Pyr.eIxV, Pyr.ownI, Pyr.lAdd, Pyr.sExt, Pyr.sPop, Pyr.trF, Pyr.trsF, Pyr.Trs.len, Pyr.run_max2, Pyr.run_min2, Pyr.backD, Pyr.eSlice, Pyr.oNone, Pyr.oSome, Pyr.optI, Pyr.lSlice, Pyr.listD, Pyr.eB, Pyr.oneD, Pyr.oneL, Pyr.itemsD, Pyr.outR, Pyr.ownD, Pyr.RV.d, Pyr.tupD, Pyr.run_mul, Pyr.run_mulS, Pyr.run_add, Pyr.run_sub, Pyr.run_addS, Pyr.run_mod, Pyr.run_fdiv, Pyr.run_lt, Pyr.run_le, Pyr.run_gt, Pyr.run_ge, Pyr.run_lenL, Pyr.run_lenT, Pyr.run_lenS, Pyr.run_int, Pyr.run_bool, Pyr.run_truB, Pyr.run_truL, Pyr.run_pur1, Pyr.run_frz1, Pyr.run_pSv, Pyr.run_pSo, Pyr.run_pSe, Pyr.run_fSv, Pyr.run_fSo, Pyr.run_fSe, Pyr.run_pur0, Pyr.run_frz0, Pyr.run_v0n, Pyr.run_v0b, Pyr.run_v0i, Pyr.run_v0s, Pyr.run_v0l, Pyr.run_v0t, Pyr.run_v0o, Pyr.run_vN, Pyr.run_vS, Pyr.run_bad, Pyr.run_exc, Pyr.run_map, Pyr.run_okL, List.length_cons, List.length_nil, Pyr.bind_ok, List.set_cons_zero, List.set_cons_succ, List.getElem?_cons_zero, List.getElem?_cons_succ, Pyr.eqD_int, Pyr.eqD_str, Pyr.neD_int, Pyr.neD_str, if_true, if_false, Bool.not_true, Bool.not_false, Bool.false_eq_true, decide_true, decide_false, Pyr.run_atT0, Pyr.run_atT1, Pyr.run_atT2, Pyr.run_atT3, Pyr.run_atT4, Pyr.run_atL0, Pyr.run_atL1, Pyr.run_atL2, Pyr.run_atL3, Pyr.run_atL4, Pyr.isi_str_n, Pyr.isi_str_b, Pyr.isi_str_i, Pyr.isi_str_s, Pyr.isi_str_l, Pyr.isi_str_t, Pyr.isi_str_d, Pyr.isi_int_n, Pyr.isi_int_b, Pyr.isi_int_i, Pyr.isi_int_s, Pyr.isi_int_l, Pyr.isi_int_t, Pyr.isi_int_d, Pyr.isi_bool_n, Pyr.isi_bool_b, Pyr.isi_bool_i, Pyr.isi_bool_s, Pyr.isi_bool_l, Pyr.isi_bool_t, Pyr.isi_bool_d, Pyr.isi_list_n, Pyr.isi_list_b, Pyr.isi_list_i, Pyr.isi_list_s, Pyr.isi_list_l, Pyr.isi_list_t, Pyr.isi_list_d, Pyr.isi_tuple_n, Pyr.isi_tuple_b, Pyr.isi_tuple_i, Pyr.isi_tuple_s, Pyr.isi_tuple_l, Pyr.isi_tuple_t, Pyr.isi_tuple_d, Pyr.isi_dict_n, Pyr.isi_dict_b, Pyr.isi_dict_i, Pyr.isi_dict_s, Pyr.isi_dict_l, Pyr.isi_dict_t, Pyr.isi_dict_d, Nat.reduceAdd, Int.cast_ofNat_Int, Int.natCast_zero, Int.natCast_one, Int.reduceEq, Int.reduceLT, Int.reduceLE, Int.reduceAdd, Int.reduceSub, Int.reduceMul, Int.reduceNeg, Int.reduceNe, Nat.zero_add, reduceIte, decide_eq_true_eq, beq_self_eq_true, eq_self, Bool.true_or, Bool.or_true, Bool.and_true, Bool.true_and, Bool.false_or, Bool.or_false, Bool.and_false, Bool.false_and, $(⟨ts.elemsAndSeps⟩),*])

set_option Elab.async false
set_option autoImplicit false
set_option linter.all false
set_option maxRecDepth 100000
set_option maxHeartbeats 4000000
namespace Com2
noncomputable section
open PySem PySem.Spec PyProof.Rows L2 Evl Pyr 
abbrev eL (f : En → Res (List Pyr.D)) : En → Res Pyr.D := fun ρ => (f ρ).map .list
def B__law_draws_0 : Frm → Res Fl := (sSeq (sSet 5 (eC (.int 0)))
  (sSeq (sIf (tE boolD (e2 gtD (eN (oneD lenD) (aC (eVar 2) a0)) (eC (.int 0)))) (sSeq (sSet 7 (e2 modD (eN (oneD int2D) (aC (eVar 4) a0)) (eN (oneD lenD) (aC (eVar 2) a0))))
  (sIf (tE boolD (e2 geD (eIxV 2 (eVar 7)) (e2 powD (eC (.int 10)) (eC (.int 18))))) (sSeq (sSet 5 (e2 modD (eN (oneD int2D) (aC (eIxV 2 (eVar 7)) a0)) (eC (.int 1000))))
  (sPut 2 (eVar 7) (e2 fdivD (eIxV 2 (eVar 7)) (eC (.int 1000))))) (sSeq (sSet 8 (e2 modD (eN (oneD int2D) (aC (e2 addD (e2 addD (e2 mul2D (eIxV 2 (eVar 7)) (eC (.int 48271))) (e2 mul2D (eVar 4) (eC (.int 69621)))) (eC (.int 11))) a0)) (eC (.int 2147483647))))
  (sSeq (sSet 8 (e2 modD (eN (oneD int2D) (aC (e2 addD (e2 mul2D (eVar 8) (eC (.int 16807))) (eVar 7)) a0)) (eC (.int 2147483629))))
  (sSet 5 (e2 modD (eN (oneD int2D) (aC (e2 fdivD (eVar 8) (eC (.int 7))) a0)) (eC (.int 1000)))))))) sNext)
  (sKill [7, 8] (sSeq (sApp 3 (eVar 5))
  (sKill [4, 5, 7, 8] sNext)))))
def T__law_draws_3 : Frm → Res Fl := (sKill [4, 5, 7, 8] (sRetO 3))
def T__law_draws_2 : Frm → Res Fl := (sKill [0, 4, 5, 6, 7, 8] (sSeq (sForR (Tg.nm 4) (iF r1D (eVar 1)) B__law_draws_0)
  T__law_draws_3))
def T__law_draws_1 : Frm → Res Fl := (sSeq (sSetL 3 (lN a0))
  T__law_draws_2)
def F__law_draws : Frm → Res Fl := (sSeq (sSetL 2 (lComp [6] (Tg.nm 6) (iF walkD (eVar 0)) tYesR (eVar 6)))
  T__law_draws_1)
noncomputable def m__law_draws : List D → Res RV := hid (defM 2 9 F__law_draws)
theorem u__law_draws : m__law_draws = defM 2 9 F__law_draws := hid_eq _
def T__law_pool_6 : Frm → Res Fl := (sRetL (lComp [8] (Tg.nm 8) (iF r1D (eVar 2)) tYesR (e2 addD (e2 addD (eSlice (eVar 5) oNone (oSome (eVar 6))) (e2 atD (eVar 3) (e2 modD (eN (oneD int2D) (aC (e2 addD (eVar 1) (e2 mul2D (eVar 7) (eVar 8))) a0)) (eC (.int 36))))) (eSlice (eVar 5) (oSome (eVar 6)) oNone))))
def T__law_pool_5 : Frm → Res Fl := (sSeq (sSet 7 (e2 addD (eC (.int 1)) (e2 mul2D (eC (.int 4)) (e2 modD (eN (oneD int2D) (aC (e2 fdivD (eVar 1) (eC (.int 4))) a0)) (eC (.int 2))))))
  T__law_pool_6)
def T__law_pool_4 : Frm → Res Fl := (sSeq (sSet 6 (e2 modD (eN (oneD int2D) (aC (eVar 1) a0)) (e2 addD (eVar 4) (eC (.int 1)))))
  T__law_pool_5)
def T__law_pool_3 : Frm → Res Fl := (sSeq (sSet 5 (eJoin (eC (.str "")) (eL (lComp [8] (Tg.nm 8) (iF r1D (eVar 4)) tYesR (e2 atD (eVar 3) (e2 modD (eN (oneD int2D) (aC (e2 addD (eVar 0) (e2 mul2D (e2 mul2D (eC (.int 7)) (eVar 8)) (e2 addD (eC (.int 1)) (e2 modD (eN (oneD int2D) (aC (eVar 1) a0)) (eC (.int 3)))))) a0)) (eC (.int 36))))))))
  T__law_pool_4)
def T__law_pool_2 : Frm → Res Fl := (sSeq (sIf (tE boolD (e2 eqD (e2 modD (eN (oneD int2D) (aC (eVar 0) a0)) (eC (.int 9))) (eC (.int 8)))) (sSet 4 (eC (.int 11))) sNext)
  T__law_pool_3)
def T__law_pool_1 : Frm → Res Fl := (sSeq (sSet 4 (e2 modD (eN (oneD int2D) (aC (eVar 0) a0)) (eC (.int 4))))
  T__law_pool_2)
def F__law_pool : Frm → Res Fl := (sSeq (sSet 3 (eC (.str "abcdefghijklmnopqrstuvwxyz0123456789")))
  T__law_pool_1)
noncomputable def m__law_pool : List D → Res RV := hid (defM 3 9 F__law_pool)
theorem u__law_pool : m__law_pool = defM 3 9 F__law_pool := hid_eq _
def B__law_place_0 : Frm → Res Fl := (sSeq (sIf (tE boolD (e2 eqD (e2 atD (e2 atD (eVar 0) (eVar 2)) (eC (.int 0))) (eVar 1))) (sRet (eVar 2)) sNext)
  (sKill [2] sNext))
def F__law_place : Frm → Res Fl := (sKill [2] (sSeq (sForR (Tg.nm 2) (iF r1D (eN (oneD lenD) (aC (eVar 0) a0))) B__law_place_0)
  (sKill [2] (sRet (eN (oneD lenD) (aC (eVar 0) a0))))))
noncomputable def m__law_place : List D → Res RV := hid (defM 2 3 F__law_place)
theorem u__law_place : m__law_place = defM 2 3 F__law_place := hid_eq _
def B__law_ascending_0 : Frm → Res Fl := (sSeq (sIf (tE boolD (e2 notInD (eN tupD (aC (e2 atD (e2 atD (eVar 0) (eVar 3)) (eC (.int 0))) (aC (eVar 4) a0))) (eVar 2))) (sApp 2 (eN tupD (aC (e2 atD (e2 atD (eVar 0) (eVar 3)) (eC (.int 0))) (aC (eVar 4) a0)))) sNext)
  (sKill [3, 4] sNext))
def F__law_ascending : Frm → Res Fl := (sSeq (sSetL 2 (lN a0))
  (sKill [3, 4, 5] (sSeq (sFor (Tg.tp [3, 4]) (iF walkD (eL (lF (oneL sortL) (aC (eL (lComp [5] (Tg.nm 5) (iF walkD (eVar 1)) tYesR (eN tupD (aC (eCall m__law_place (aC (eVar 0) (aC (e2 atD (eVar 5) (eC (.int 0))) a0))) (aC (e2 atD (eVar 5) (eC (.int 1))) a0))))) a0)))) B__law_ascending_0)
  (sKill [3, 4] (sRetO 2)))))
noncomputable def m__law_ascending : List D → Res RV := hid (defM 2 6 F__law_ascending)
theorem u__law_ascending : m__law_ascending = defM 2 6 F__law_ascending := hid_eq _
def B_place_of_0 : Frm → Res Fl := (sSeq (sIf (tE boolD (e2 eqD (e2 atD (eVar 3) (eC (.int 0))) (eVar 1))) (sRet (eVar 2)) sNext)
  (sKill [2, 3] sNext))
def F_place_of : Frm → Res Fl := (sKill [2, 3] (sSeq (sFor (Tg.tp [2, 3]) (iF enumD (eVar 0)) B_place_of_0)
  (sKill [2, 3] (sRet (eC .none)))))
noncomputable def m_place_of : List D → Res RV := hid (defM 2 4 F_place_of)
theorem u_place_of : m_place_of = defM 2 4 F_place_of := hid_eq _
theorem pow18 : powD (.int 10) (.int 18) = .ok (.int 1000000000000000000) := rfl
theorem ixN_nat {n j : Nat} (h : j < n) : ixN n (j : Int) = some j := by
  unfold ixN
  simp only [Int.natCast_nonneg, if_true, Int.toNat_natCast, decide_true]
  first | exact if_pos h | (simp; omega)
theorem draw_step (b : Sl) (R Ds : List Int) (k : Nat) (hR : R.length ≤ 100000) (hD : Ds.length ≤ 50000) : ∃ (R' : List Int) (v : Int),
    B__law_draws_0 [.emp, b, .own (.lst (R.map .int)), .own (.lst (Ds.map .int)), .val (.int (k : Int)), .emp, .emp, .emp, .emp] = .ok (.next [.emp, b, .own (.lst (R'.map .int)), .own (.lst ((Ds ++ [v]).map .int)), .emp, .emp, .emp, .emp, .emp]) ∧ R'.length = R.length ∧ 0 ≤ v ∧ v < 1000 := by
  have lR : (R.map PyData.int).length = R.length := List.length_map _
  have lD : (Ds.map PyData.int).length = Ds.length := List.length_map _
  by_cases h0 : 0 < R.length
  · obtain ⟨j, ej, hj⟩ := fmod_nat (k : Int) h0
    have h0 : (0 : Int) < (R.length : Int) := by omega
    have hat : atD (.list (R.map PyData.int)) (.int (j : Int)) = .ok (.int R[j]) := at_list (by simp [hj])
    by_cases h1 : 1000000000000000000 ≤ R[j]
    · refine ⟨R.set j (R[j].fdiv 1000), R[j].fmod 1000, ?_, by rw [List.length_set], (fmod_in _ (by decide)).1, (fmod_in _ (by decide)).2⟩
      unfold B__law_draws_0
      dsimp! [eL, lR, lD, h0, ej, hat, pow18, h1, sPut, ixN_nat, List.map_append, List.map_cons, List.map_nil, List.map_set]
    · refine ⟨R, ((((((R[j] * 48271 + k * 69621 + 11).fmod 2147483647) * 16807 + j).fmod 2147483629).fdiv 7).fmod 1000), ?_, rfl, (fmod_in _ (by decide)).1, (fmod_in _ (by decide)).2⟩
      unfold B__law_draws_0
      dsimp! [eL, lR, lD, h0, ej, hat, pow18, h1, List.map_append, List.map_cons, List.map_nil]
  · refine ⟨R, 0, ?_, rfl, by decide, by decide⟩
    have h0 : ¬ (0 : Int) < (R.length : Int) := by omega
    unfold B__law_draws_0
    dsimp! [eL, lR, lD, h0, List.map_append, List.map_cons, List.map_nil]
def Dr (vs : List Int) : Prop := ∀ v ∈ vs, (0 : Int) ≤ v ∧ v < 1000
theorem draws_run (xs : List Int) (n : Nat) (hx : xs.length ≤ 63) (hn : n ≤ 1000) : ∃ vs : List Int, m__law_draws [.list (xs.map .int), .int (n : Int)] = .ok (.own (vs.map .int)) ∧ vs.length = n ∧ Dr vs := by
  have hr : r1D (.int (n : Int)) = .ok (upto 0 n) := r1D_nat (by show _ ≤ 100000; omega)
  have hc : lComp [6] (Tg.nm 6) (iF walkD (eVar 0)) tYesR (eVar 6) (purE [.val (.list (xs.map .int)), .val (.int (n : Int)), .emp, .emp, .emp, .emp, .emp, .emp, .emp]) = .ok (xs.map .int) :=
    lComp_ok (ds := xs.map .int) rfl (by rw [List.length_map]; omega) (compF_en PyData.int PyData.int xs fun x _ => ⟨_, rfl, rfl, rfl⟩)
  obtain ⟨⟨R', Ds⟩, e, i1, i2, i3⟩ := forF_exN (S := List Int × List Int) (t := Tg.nm 4) (F := B__law_draws_0) (fun s => [.emp, .val (.int (n : Int)), .own (.lst (s.1.map .int)), .own (.lst (s.2.map .int)), .emp, .emp, .emp, .emp, .emp])
    (fun k s => s.1.length = xs.length ∧ s.2.length = k ∧ Dr s.2) n 0 (xs, []) ⟨rfl, rfl, fun v h => nomatch h⟩ fun k s _ hk ⟨h1, h2, h3⟩ => by
      obtain ⟨R', v, q1, q2, q3, q4⟩ := draw_step (.val (.int (n : Int))) s.1 s.2 k (by omega) (by omega)
      refine ⟨(R', s.2 ++ [v]), _, rfl, .inl q1, q2.trans h1, by rw [List.length_append, h2]; rfl, fun u hu => ?_⟩
      rcases List.mem_append.mp hu with hu | hu
      · exact h3 u hu
      · rw [List.mem_singleton.mp hu]
        exact ⟨q3, q4⟩
  rw [Nat.zero_add] at i2
  refine ⟨Ds, ?_, i2, i3⟩
  rw [u__law_draws]
  rw [defM_eq (np := 2) rfl]
  show outR (F__law_draws [.val (.list (xs.map .int)), .val (.int (n : Int)), .emp, .emp, .emp, .emp, .emp, .emp, .emp]) = _
  unfold F__law_draws
  rw [seq_ok (setL_ok hc)]
  have e : forF (Tg.nm 4) B__law_draws_0 (upto 0 n) [.emp, .val (.int (n : Int)), .own (.lst (xs.map .int)), .own (.lst []), .emp, .emp, .emp, .emp, .emp] = .ok (.next [.emp, .val (.int (n : Int)), .own (.lst (R'.map .int)), .own (.lst (Ds.map .int)), .emp, .emp, .emp, .emp, .emp]) := e
  unfold T__law_draws_1
  rw [seq_ok (setL_ok (d := []) rfl)]
  unfold T__law_draws_2
  show outR (sSeq (sForR (Tg.nm 4) (iF r1D (eVar 1)) B__law_draws_0) T__law_draws_3 [.emp, .val (.int (n : Int)), .own (.lst (xs.map .int)), .own (.lst []), .emp, .emp, .emp, .emp, .emp]) = _
  rw [seq_ok ((forR_ok (ds := upto 0 n) ((iF_ok (x := .int (n : Int)) rfl).trans hr) (upto_flat _ _)).trans e)]
  rfl
end
end Com2
set_option Elab.async false
set_option autoImplicit false
set_option linter.all false
set_option maxRecDepth 100000
set_option maxHeartbeats 4000000
namespace Com2
noncomputable section
open PySem PySem.Spec PyProof.Rows L2 Evl Pyr 
abbrev lets : Str := "abcdefghijklmnopqrstuvwxyz0123456789"
def ofL (l : List Nat) : Str := ⟨l.toArray⟩
theorem ofL_tl (l : List Nat) : (ofL l).cps.toList = l := by simp [ofL]
theorem ofL_len (l : List Nat) : (ofL l).length = l.length := by rw [tl_len, ofL_tl]
theorem str_eq {x y : Str} (h : x.cps.toList = y.cps.toList) : x = y := TL.ext_tl h
theorem lets_is : lets.cps.toList = [97, 98, 99, 100, 101, 102, 103, 104, 105, 106, 107, 108, 109, 110, 111, 112, 113, 114, 115, 116, 117, 118, 119, 120, 121, 122, 48, 49, 50, 51, 52, 53, 54, 55, 56, 57] := by decide +kernel
theorem lets_len : lets.length = 36 := by decide +kernel
def lc (j : Nat) : Nat := lets.cps.toList.getD j 0
theorem lc_in {j : Nat} (h : j < 36) : lc j ∈ lets.cps.toList := by
  have : ∀ j < 36, decide (lc j ∈ lets.cps.toList) = true := by decide +kernel
  exact of_decide_eq_true (this j h)
theorem lc_inj {i j : Nat} (hi : i < 36) (hj : j < 36) (h : lc i = lc j) : i = j := by
  have : ∀ i < 36, ∀ j < 36, (lc i == lc j) = (i == j) := by decide +kernel
  have q := this i hi j hj
  rw [h, beq_self_eq_true] at q
  exact eq_of_beq q.symm
theorem lc_at {j : Nat} (h : j < 36) : atD (.str lets) (.int (j : Int)) = .ok (.str (ofL [lc j])) := by
  have hl : lets.cps.toList.length = 36 := by rw [← tl_len]; exact lets_len
  refine at_str ?_ (by rw [lets_len]; decide)
  unfold lc
  rw [List.getD_eq_getElem?_getD, List.getElem?_eq_getElem (by omega)]
  rfl
theorem let_at (n : Int) : ∃ j : Nat, n.fmod 36 = j ∧ j < 36 ∧ atD (.str lets) (.int (n.fmod 36)) = .ok (.str (ofL [lc j])) := by
  obtain ⟨j, e, h⟩ := fmod_nat n (m := 36) (by decide)
  have e : n.fmod 36 = (j : Int) := e
  exact ⟨j, e, h, by rw [e]; exact lc_at h⟩
def LetS (x : Str) : Prop := ∀ c ∈ x.cps.toList, c ∈ lets.cps.toList
def Wd (x : Str) : Prop := 1 ≤ x.length ∧ x.length ≤ 12 ∧ LetS x
theorem letS_ok {x : Str} (h : LetS x) : PyData.strOk x = true := by
  have : x.cps.toList.all (fun c => decide (c < 0x110000)) = true := List.all_eq_true.mpr fun c hc => by
    have a := h c hc
    have b : ∀ c ∈ lets.cps.toList, c < 0x110000 := by rw [lets_is]; decide +kernel
    exact decide_eq_true (b c a)
  rw [Array.all_toList] at this
  exact this
theorem wd_f {x : Str} (h : Wd x) (n : Nat) : fD n (.str x) = true := by
  have := letS_ok h.2.2
  cases n <;> simpa [fD] using this
theorem cut_front (x : Str) (p : Nat) : (cutS x none (some (p : Int))).cps.toList = x.cps.toList.take p := by
  have hl : x.length = x.cps.toList.length := tl_len x
  simp only [cutS, HT.sIx_none, HT.sIx_nat, List.drop_zero, Nat.sub_zero, List.toList_toArray]
  rw [hl, List.take_eq_take_iff]
  omega
theorem cut_back (x : Str) (p : Nat) : (cutS x (some (p : Int)) none).cps.toList = x.cps.toList.drop p := by
  have hl : x.length = x.cps.toList.length := tl_len x
  simp only [cutS, HT.sIx_none, HT.sIx_nat, List.toList_toArray]
  rw [hl, List.take_of_length_le (by rw [List.length_drop]; omega)]
  by_cases h : p ≤ x.cps.toList.length
  · rw [Nat.min_eq_left h]
  · rw [Nat.min_eq_right (by omega), List.drop_of_length_le (Nat.le_refl _), List.drop_of_length_le (by omega)]
theorem joinL_nil : ∀ l : List (List Nat), TL.joinL [] l = l.flatten
  | [] => rfl
  | [p] => by simp [TL.joinL]
  | p :: q :: r => by rw [TL.joinL, joinL_nil (q :: r)]; simp
theorem joinD_chars (cs : List Nat) (h : cs.length ≤ 1000) : joinD ("" : Str) (.list (cs.map fun c => .str (ofL [c]))) = .ok (.str (ofL cs)) := by
  have e1 : ∀ cs : List Nat, strsD (cs.map fun c => PyData.str (ofL [c])) = some (cs.map fun c => ofL [c]) := fun cs => by
    induction cs with
    | nil => rfl
    | cons c cs ih => show (strsD (cs.map fun c => PyData.str (ofL [c]))).map _ = _; rw [ih]; rfl
  show joinS "" (cs.map fun c => .str (ofL [c])) = _
  unfold joinS
  rw [e1]
  have e2 : ((cs.map fun c => ofL [c]).map (·.length)).sum = cs.length := by
    induction cs with
    | nil => rfl
    | cons c cs ih =>
      rw [List.map_cons, List.map_cons, List.sum_cons, ih (by simp at h; omega), List.length_cons, ofL_len]
      simp
      omega
  have e3 : ("" : Str).length = 0 := by decide +kernel
  show (if _ ≤ LIM then Res.ok (PyData.str (Txt.join "" (cs.map fun c => ofL [c]))) else .bad) = _
  rw [if_pos (by rw [e2, e3, Nat.mul_zero]; show _ ≤ 100000; omega)]
  congr 2
  refine str_eq ?_
  rw [ofL_tl, TL.join_eq]
  have : (Str.join "" (cs.map fun c => ofL [c])).cps.toList = _ := TL.tl_join "" (cs.map fun c => ofL [c])
  rw [this]
  show TL.joinL ("" : Str).cps.toList _ = _
  rw [show ("" : Str).cps.toList = [] from by decide +kernel, joinL_nil, List.map_map]
  clear this e1 e2 h
  induction cs with
  | nil => rfl
  | cons c cs ih => rw [List.map_cons, List.flatten_cons, ih]; simp [TL.tl, ofL]
theorem pool_run3 (a b : Int) (m : Nat) (hm : m ≤ 20) (ha : 0 ≤ a ∧ a < 1000) (hb : 0 ≤ b ∧ b < 2000) :
    ∃ ws : List Str, m__law_pool [.int a, .int b, .int (m : Int)] = .ok (.own (ws.map .str)) ∧ ws.length = m ∧ (∀ w ∈ ws, Wd w) ∧ ws.Nodup ∧ ∃ n, ∀ w ∈ ws, w.length = n := by
  obtain ⟨s, hs, es⟩ : ∃ s : Nat, s ≤ 11 ∧ T__law_pool_1 [.val (.int a), .val (.int b), .val (.int (m : Int)), .val (.str lets), .emp, .emp, .emp, .emp, .emp] = T__law_pool_3 [.val (.int a), .val (.int b), .val (.int (m : Int)), .val (.str lets), .val (.int (s : Int)), .emp, .emp, .emp, .emp] := by
    obtain ⟨j, ej, hj⟩ := fmod_nat a (m := 4) (by decide)
    have ej : a.fmod 4 = (j : Int) := ej
    by_cases h9 : a.fmod 9 = 8
    · refine ⟨11, Nat.le_refl _, ?_⟩
      unfold T__law_pool_1 T__law_pool_2
      dsimp! [eL, ej, h9]
    · refine ⟨j, by omega, ?_⟩
      unfold T__law_pool_1 T__law_pool_2
      dsimp! [eL, ej, h9]
  have hr : r1D (.int (s : Int)) = .ok ((List.range' 0 s).map fun k : Nat => .int (k : Int)) := (r1D_nat (by show _ ≤ 100000; omega)).trans (congrArg Res.ok (upto_map s 0))
  generalize hT : (List.range' 0 s).map (fun k : Nat => lc ((a + 7 * (k : Int) * (1 + b.fmod 3)).fmod 36).toNat) = T
  have lT : T.length = s := by rw [← hT, List.length_map, List.length_range']
  have inT : ∀ c ∈ T, c ∈ lets.cps.toList := fun c hc => by
    rw [← hT] at hc
    obtain ⟨k, _, rfl⟩ := List.mem_map.mp hc
    obtain ⟨j, e, h, _⟩ := let_at (a + 7 * (k : Int) * (1 + b.fmod 3))
    rw [e]
    exact lc_in h
  obtain ⟨p, ep, hp⟩ := fmod_nat b (m := s + 1) (by omega)
  obtain ⟨q, eq, hq⟩ : ∃ q : Nat, 1 + 4 * (b.fdiv 4).fmod 2 = (q : Int) ∧ (q = 1 ∨ q = 5) := by
    have := fmod_in (b.fdiv 4) (m := 2) (by decide)
    exact ⟨(1 + 4 * (b.fdiv 4).fmod 2).toNat, by omega, by omega⟩
  generalize hW : (List.range' 0 m).map (fun k : Nat => ofL (T.take p ++ [lc ((b + q * (k : Int)).fmod 36).toNat] ++ T.drop p)) = ws
  have lW : ws.length = m := by rw [← hW, List.length_map, List.length_range']
  refine ⟨ws, ?_, lW, fun w hw => ?_, ?_, s + 1, fun w hw => ?_⟩
  · rw [u__law_pool]
    rw [defM_eq (np := 3) rfl]
    show outR (F__law_pool [.val (.int a), .val (.int b), .val (.int (m : Int)), .emp, .emp, .emp, .emp, .emp, .emp]) = _
    unfold F__law_pool
    rw [seq_ok (set_ok (d := .str lets) rfl)]
    show outR (T__law_pool_1 [.val (.int a), .val (.int b), .val (.int (m : Int)), .val (.str lets), .emp, .emp, .emp, .emp, .emp]) = _
    have es : T__law_pool_1 [.val (.int a), .val (.int b), .val (.int (m : Int)), .val (.str lets), .emp, .emp, .emp, .emp, .emp] = _ := es
    rw [es]
    unfold T__law_pool_3
    rw [seq_ok (set_ok (d := .str (ofL T)) ?_)]
    · unfold T__law_pool_4
      rw [seq_ok (ρ' := [.val (.int a), .val (.int b), .val (.int (m : Int)), .val (.str lets), .val (.int (s : Int)), .val (.str (ofL T)), .val (.int (p : Int)), .emp, .emp]) (by
        have ep : b.fmod ((s : Int) + 1) = (p : Int) := ep
        dsimp! [eL, ep])]
      unfold T__law_pool_5
      rw [seq_ok (ρ' := [.val (.int a), .val (.int b), .val (.int (m : Int)), .val (.str lets), .val (.int (s : Int)), .val (.str (ofL T)), .val (.int (p : Int)), .val (.int (q : Int)), .emp]) (by dsimp! [eL, eq])]
      unfold T__law_pool_6
      have hr2 : r1D (.int (m : Int)) = .ok ((List.range' 0 m).map fun k : Nat => .int (k : Int)) := (r1D_nat (by show _ ≤ 100000; omega)).trans (congrArg Res.ok (upto_map m 0))
      rw [retL_ok (ds := ws.map .str)]
      · rfl
      · refine lComp_ok ((iF_ok (x := .int (m : Int)) rfl).trans hr2) (by rw [List.length_map, List.length_range']; omega) ?_
        rw [← hW, List.map_map]
        refine compF_en _ _ _ fun k hk => ⟨_, rfl, rfl, ?_⟩
        obtain ⟨j, e, h, at'⟩ := let_at (b + q * (k : Int))
        have hk := (List.mem_range'_1.mp hk).2
        rw [e] at at'
        have l1 : (ofL T).length = s := by rw [ofL_len, lT]
        have l2 : (cutS (ofL T) none (some (p : Int))).length ≤ 11 := by rw [tl_len, cut_front, ofL_tl, List.length_take]; omega
        have l3 : (cutS (ofL T) (some (p : Int)) none).length ≤ 11 := by rw [tl_len, cut_back, ofL_tl, List.length_drop]; omega
        have l4 : (ofL [lc j]).length = 1 := rfl
        have sl : ∀ lo hi, sliceD (.str (ofL T)) lo hi = .ok (.str (cutS (ofL T) lo hi)) := fun lo hi => okL_ok (by rw [l1]; show _ ≤ 100000; omega)
        have ee : cutS (ofL T) none (some (p : Int)) ++ ofL [lc j] ++ cutS (ofL T) (some (p : Int)) none = ofL (T.take p ++ [lc j] ++ T.drop p) := str_eq (by
          have a1 : ∀ x y : Str, (x ++ y).cps.toList = x.cps.toList ++ y.cps.toList := fun x y => TL.tl_append x y
          rw [a1, a1, cut_front, cut_back, ofL_tl, ofL_tl, ofL_tl])
        simp -implicitDefEqProofs (disch := first | omega | (simp only [Pyr.app_len]; omega)) only [Pyr.run_nx, Pyr.run_dt, Pyr.run_fSu, Pyr.run_pSu, Pyr.run_flI, Pyr.run_flB, Pyr.run_flS, Pyr.run_flN, Pyr.sSeq, Pyr.sKill, Pyr.run_kill0, Pyr.run_killS, Pyr.sIf, Pyr.sSet, Pyr.sSetL, Pyr.sRet, Pyr.sRetL, Pyr.sRetN, Pyr.sRetO, Pyr.sDrop, Pyr.sApp, Pyr.sNext, Pyr.sFrz, Pyr.sSetT, Pyr.tgF, Pyr.setsF, Pyr.evP, Pyr.evL, Pyr.evT, Pyr.bare, Pyr.eC, Pyr.e1, Pyr.e2, Pyr.eN, Pyr.aC, Pyr.a0, Pyr.eIf, Pyr.eAnd, Pyr.eOr, Pyr.eNot, Pyr.eChain, Pyr.tE, Pyr.tNotR, Pyr.tAndR, Pyr.tOrR, Pyr.eCall, Pyr.lCall, Pyr.iF, Pyr.iF2, Pyr.lN, Pyr.lF, Pyr.eFs, Pyr.jC, Pyr.j0, Pyr.eIxV, Pyr.ownI, Pyr.lAdd, Pyr.sExt, Pyr.sPop, Pyr.trF, Pyr.trsF, Trs.len, Pyr.run_max2, Pyr.run_min2, Pyr.backD, Pyr.eSlice, Pyr.oNone, Pyr.oSome, Pyr.optI, Pyr.lSlice, Pyr.listD, eL, Pyr.eB, Pyr.oneD, Pyr.oneL, Pyr.itemsD, Pyr.outR, Pyr.ownD, Pyr.RV.d, Pyr.tupD, Pyr.run_mul, Pyr.run_mulS, Pyr.run_add, Pyr.run_sub, Pyr.run_addS, Pyr.run_mod, Pyr.run_fdiv, Pyr.run_lt, Pyr.run_le, Pyr.run_gt, Pyr.run_ge, Pyr.run_lenL, Pyr.run_lenT, Pyr.run_lenS, Pyr.run_int, Pyr.run_bool, Pyr.run_truB, Pyr.run_truL, Pyr.run_pur1, Pyr.run_frz1, Pyr.run_pSv, Pyr.run_pSo, Pyr.run_pSe, Pyr.run_fSv, Pyr.run_fSo, Pyr.run_fSe, Pyr.run_pur0, Pyr.run_frz0, Pyr.run_v0n, Pyr.run_v0b, Pyr.run_v0i, Pyr.run_v0s, Pyr.run_v0l, Pyr.run_v0t, Pyr.run_v0o, Pyr.run_vN, Pyr.run_vS, Pyr.run_bad, Pyr.run_exc, Pyr.run_map, Pyr.run_okL, List.length_cons, List.length_nil, Pyr.bind_ok, List.set_cons_zero, List.set_cons_succ, List.getElem?_cons_zero, List.getElem?_cons_succ, Pyr.eqD_int, Pyr.eqD_str, Pyr.neD_int, Pyr.neD_str, if_true, if_false, Bool.not_true, Bool.not_false, Bool.false_eq_true, decide_true, decide_false, Pyr.run_atT0, Pyr.run_atT1, Pyr.run_atT2, Pyr.run_atT3, Pyr.run_atT4, Pyr.run_atL0, Pyr.run_atL1, Pyr.run_atL2, Pyr.run_atL3, Pyr.run_atL4, Pyr.isi_str_n, Pyr.isi_str_b, Pyr.isi_str_i, Pyr.isi_str_s, Pyr.isi_str_l, Pyr.isi_str_t, Pyr.isi_str_d, Pyr.isi_int_n, Pyr.isi_int_b, Pyr.isi_int_i, Pyr.isi_int_s, Pyr.isi_int_l, Pyr.isi_int_t, Pyr.isi_int_d, Pyr.isi_bool_n, Pyr.isi_bool_b, Pyr.isi_bool_i, Pyr.isi_bool_s, Pyr.isi_bool_l, Pyr.isi_bool_t, Pyr.isi_bool_d, Pyr.isi_list_n, Pyr.isi_list_b, Pyr.isi_list_i, Pyr.isi_list_s, Pyr.isi_list_l, Pyr.isi_list_t, Pyr.isi_list_d, Pyr.isi_tuple_n, Pyr.isi_tuple_b, Pyr.isi_tuple_i, Pyr.isi_tuple_s, Pyr.isi_tuple_l, Pyr.isi_tuple_t, Pyr.isi_tuple_d, Pyr.isi_dict_n, Pyr.isi_dict_b, Pyr.isi_dict_i, Pyr.isi_dict_s, Pyr.isi_dict_l, Pyr.isi_dict_t, Pyr.isi_dict_d, Nat.reduceAdd, Int.cast_ofNat_Int, Int.natCast_zero, Int.natCast_one, Int.reduceEq, Int.reduceLT, Int.reduceLE, Int.reduceAdd, Int.reduceSub, Int.reduceMul, Int.reduceNeg, Int.reduceNe, Nat.zero_add, reduceIte, decide_eq_true_eq, beq_self_eq_true, eq_self, Bool.true_or, Bool.or_true, Bool.and_true, Bool.true_and, Bool.false_or, Bool.or_false, Bool.and_false, Bool.false_and, e, at', wipeE, tgE, sl, optI, l2, l3, l4, ee, Int.toNat_natCast, Function.comp]
    · refine eJoin_ok rfl (mapL_ok (lComp_ok ((iF_ok (x := .int (s : Int)) rfl).trans hr) (by rw [List.length_map, List.length_range']; omega) (compF_en _ (fun k : Nat => .str (ofL [lc ((a + 7 * (k : Int) * (1 + b.fmod 3)).fmod 36).toNat])) _ fun k hk => ⟨_, rfl, rfl, ?_⟩))) ?_
      · obtain ⟨j, e, h, q⟩ := let_at (a + 7 * (k : Int) * (1 + b.fmod 3))
        have hk := (List.mem_range'_1.mp hk).2
        have b3 := fmod_in b (m := 3) (by decide)
        rw [e] at q ⊢
        dsimp! [eL, e, q, wipeE, tgE, Int.toNat_natCast]
      · have : joinD ("" : Str) (.list (T.map fun c => .str (ofL [c]))) = .ok (.str (ofL T)) := joinD_chars T (by omega)
        rw [← hT, List.map_map] at this
        rw [← hT]
        exact this
  · rw [← hW] at hw
    obtain ⟨k, _, rfl⟩ := List.mem_map.mp hw
    obtain ⟨j, e, h, _⟩ := let_at (b + q * (k : Int))
    rw [e, Int.toNat_natCast]
    refine ⟨?_, ?_, fun c hc => ?_⟩
    · rw [ofL_len, List.length_append, List.length_append]
      simp only [List.length_cons, List.length_nil]
      omega
    · rw [ofL_len, List.length_append, List.length_append, List.length_take, List.length_drop]
      simp only [List.length_cons, List.length_nil]
      omega
    · rw [ofL_tl] at hc
      rcases List.mem_append.mp hc with hc | hc
      · rcases List.mem_append.mp hc with hc | hc
        · exact inT c (List.mem_of_mem_take hc)
        · rw [List.mem_singleton.mp hc]
          exact lc_in h
      · exact inT c (List.mem_of_mem_drop hc)
  · rw [← hW]
    refine List.Pairwise.map _ (fun i k (hik : i < k ∧ k < 20) z => ?_) (R := fun i k : Nat => i < k ∧ k < 20) ?_
    · have z := congrArg (fun x : Str => x.cps.toList) z
      simp only [ofL_tl, List.append_assoc] at z
      have z := List.append_cancel_left z
      obtain ⟨ji, ei, hi, _⟩ := let_at (b + q * (i : Int))
      obtain ⟨jk, ek, hk, _⟩ := let_at (b + q * (k : Int))
      rw [ei, ek, Int.toNat_natCast, Int.toNat_natCast] at z
      have := lc_inj hi hk (List.cons.inj (show lc ji :: _ = lc jk :: _ from z)).1
      subst this
      have d1 := Int.fmod_add_mul_fdiv (b + q * (i : Int)) 36
      have d2 := Int.fmod_add_mul_fdiv (b + q * (k : Int)) 36
      generalize (b + q * (i : Int)).fdiv 36 = u at d1
      generalize (b + q * (k : Int)).fdiv 36 = v at d2
      rcases hq with rfl | rfl <;> omega
    · refine List.Pairwise.imp_of_mem (fun {i k} hi hk h => ⟨h, by have := (List.mem_range'_1.mp hk).2; omega⟩) List.pairwise_lt_range'
  · rw [← hW] at hw
    obtain ⟨k, _, rfl⟩ := List.mem_map.mp hw
    rw [ofL_len, List.length_append, List.length_append, List.length_take, List.length_drop]
    simp only [List.length_cons, List.length_nil]
    omega
theorem pool_run2 (a b : Int) (m : Nat) (hm : m ≤ 20) (ha : 0 ≤ a ∧ a < 1000) (hb : 0 ≤ b ∧ b < 1000) :
    ∃ ws : List Str, m__law_pool [.int a, .int b, .int (m : Int)] = .ok (.own (ws.map .str)) ∧ ws.length = m ∧ (∀ w ∈ ws, Wd w) ∧ ws.Nodup ∧ ∃ n, ∀ w ∈ ws, w.length = n := pool_run3 a b m hm ha ⟨hb.1, by omega⟩
theorem pool_run (a b : Int) (m : Nat) (hm : m ≤ 20) (ha : 0 ≤ a ∧ a < 1000) (hb : 0 ≤ b ∧ b < 1000) :
    ∃ ws : List Str, m__law_pool [.int a, .int b, .int (m : Int)] = .ok (.own (ws.map .str)) ∧ ws.length = m ∧ (∀ w ∈ ws, Wd w) ∧ ws.Nodup :=
  let ⟨ws, h1, h2, h3, h4, _⟩ := pool_run2 a b m hm ha hb
  ⟨ws, h1, h2, h3, h4⟩
end
end Com2
set_option Elab.async false
set_option autoImplicit false
set_option linter.all false
set_option maxRecDepth 100000
set_option maxHeartbeats 2000000
namespace Pyr
open PySem PySem.Spec PyProof.Rows L2 Evl
mutual
def noB : D → Bool
  | .none => true
  | .bool _ => false
  | .int _ => true
  | .str _ => true
  | .list ds => noBs ds
  | .tuple ds => noBs ds
  | .dict _ => false
def noBs : List D → Bool
  | [] => true
  | d :: ds => noB d && noBs ds
end
mutual
theorem eqv_iff : ∀ x y : D, noB x = true → noB y = true → (PyData.eqv x y = true ↔ x = y)
  | .none, y, _, hy => by cases y <;> simp [PyData.eqv]
  | .bool _, _, hx, _ => by simp [noB] at hx
  | .int i, y, _, hy => by cases y <;> simp [PyData.eqv] <;> simp [noB] at hy
  | .str a, y, _, hy => by cases y <;> simp [PyData.eqv]
  | .list xs, y, hx, hy => by
    cases y with
    | list ys =>
      have := eqvs_iff xs ys (by simpa [noB] using hx) (by simpa [noB] using hy)
      simpa [PyData.eqv] using this
    | _ => simp [PyData.eqv]
  | .tuple xs, y, hx, hy => by
    cases y with
    | tuple ys =>
      have := eqvs_iff xs ys (by simpa [noB] using hx) (by simpa [noB] using hy)
      simpa [PyData.eqv] using this
    | _ => simp [PyData.eqv]
  | .dict _, _, hx, _ => by simp [noB] at hx
theorem eqvs_iff : ∀ xs ys : List D, noBs xs = true → noBs ys = true → (PyData.eqvAll xs ys = true ↔ xs = ys)
  | [], [], _, _ => by simp [PyData.eqvAll]
  | [], _ :: _, _, _ => by simp [PyData.eqvAll]
  | _ :: _, [], _, _ => by simp [PyData.eqvAll]
  | x :: xs, y :: ys, hx, hy => by
    rw [noBs, Bool.and_eq_true] at hx hy
    rw [PyData.eqvAll, Bool.and_eq_true, eqv_iff x y hx.1 hy.1, eqvs_iff xs ys hx.2 hy.2, List.cons.injEq]
end
theorem noBs_all : ∀ {ds : List D}, (∀ d ∈ ds, noB d = true) → noBs ds = true
  | [], _ => rfl
  | d :: ds, h => by rw [noBs, h d List.mem_cons_self, noBs_all fun e he => h e (List.mem_cons_of_mem _ he)]; rfl
theorem noB_strs (r : List Str) : noB (.tuple (r.map .str)) = true := by
  show noBs (r.map .str) = true
  refine noBs_all fun d hd => ?_
  obtain ⟨x, _, rfl⟩ := List.mem_map.mp hd
  rfl
structure Enc {α : Type} (en : α → D) (ok : α → Prop) : Prop where
  inj : ∀ x y, en x = en y → x = y
  nb : ∀ x, noB (en x) = true
  fd : ∀ x, ok x → fD 50 (en x) = true
section
variable {α : Type} {en : α → D} {ok : α → Prop} (E : Enc en ok)
include E
theorem Enc.eqv (x y : α) [Decidable (x = y)] : PyData.eqv (en x) (en y) = decide (x = y) := by
  rw [Bool.eq_iff_iff, eqv_iff _ _ (E.nb x) (E.nb y), decide_eq_true_eq]
  exact ⟨fun h => E.inj x y h, fun h => by rw [h]⟩
theorem Enc.okd {x : α} (h : ok x) : okd (en x) = true := fD_okd (E.fd x h) (by decide)
theorem Enc.okl {xs : List α} (h : ∀ x ∈ xs, ok x) : Pyr.okd (.list (xs.map en)) = true := by
  refine fD_okd (n := 51) ?_ (by decide)
  show fDs 50 (xs.map en) = true
  refine fDs_all fun d hd => ?_
  obtain ⟨x, hx, rfl⟩ := List.mem_map.mp hd
  exact E.fd x (h x hx)
theorem Enc.eqD {x y : α} [Decidable (x = y)] (hx : ok x) (hy : ok y) : Pyr.eqD (en x) (en y) = .ok (.bool (decide (x = y))) := by
  unfold Pyr.eqD
  rw [E.okd hx, E.okd hy, E.eqv]
  simp
theorem Enc.neD {x y : α} [Decidable (x = y)] (hx : ok x) (hy : ok y) : Pyr.neD (en x) (en y) = .ok (.bool (!decide (x = y))) := by
  unfold Pyr.neD
  rw [E.okd hx, E.okd hy, E.eqv]
  simp
theorem Enc.any (xs : List α) (y : α) [Decidable (y ∈ xs)] : (xs.map en).any (fun z => PyData.eqv z (en y)) = decide (y ∈ xs) := by
  rw [Bool.eq_iff_iff, List.any_eq_true, decide_eq_true_eq]
  constructor
  · rintro ⟨d, hd, h⟩
    obtain ⟨x, hx, rfl⟩ := List.mem_map.mp hd
    have h := E.inj _ _ ((eqv_iff _ _ (E.nb x) (E.nb y)).mp h)
    exact h ▸ hx
  · intro h
    exact ⟨en y, List.mem_map.mpr ⟨y, h, rfl⟩, (eqv_iff _ _ (E.nb y) (E.nb y)).mpr rfl⟩
theorem Enc.inD {xs : List α} {y : α} [Decidable (y ∈ xs)] (hxs : ∀ x ∈ xs, ok x) (hy : ok y) : Pyr.inD (en y) (.list (xs.map en)) = .ok (.bool (decide (y ∈ xs))) := by
  have e : Pyr.inD (en y) (.list (xs.map en)) = if Pyr.okd (en y) && Pyr.okd (.list (xs.map en)) then .ok (.bool ((xs.map en).any fun z => PyData.eqv z (en y))) else .bad := by cases en y <;> rfl
  rw [e, E.okd hy, E.okl hxs, E.any]
  rfl
theorem Enc.notInD {xs : List α} {y : α} [Decidable (y ∈ xs)] (hxs : ∀ x ∈ xs, ok x) (hy : ok y) : Pyr.notInD (en y) (.list (xs.map en)) = .ok (.bool (!decide (y ∈ xs))) := by
  unfold Pyr.notInD
  rw [E.inD hxs hy]
  rfl
end
abbrev dlt (x y : D) : Bool := PySem.W.dataLt x y
theorem dlt_irrefl (x : D) : dlt x x = false := PyProof.Rows.lex_irrefl _
theorem dlt_trans {x y z : D} (h : dlt x y = true) (h2 : dlt y z = true) : dlt x z = true := PyProof.Rows.lex_trans _ _ _ h h2
theorem dle_iff (x y : D) : PySem.W.dataLe false id x y = !dlt y x := rfl
theorem dle_trans (x y z : D) (h : PySem.W.dataLe false id x y = true) (h2 : PySem.W.dataLe false id y z = true) : PySem.W.dataLe false id x z = true := by
  rw [dle_iff] at *
  cases q : dlt z x with
  | false => rfl
  | true =>
    rcases PyProof.Rows.lex_negTrans _ (PySem.W.keyToks y) _ q with a | a
    · rw [show dlt z y = true from a] at h2; cases h2
    · rw [show dlt y x = true from a] at h; cases h
theorem dle_total (x y : D) : (PySem.W.dataLe false id x y || PySem.W.dataLe false id y x) = true := by
  rw [dle_iff, dle_iff]
  cases a : dlt y x with
  | false => rfl
  | true =>
    cases b : dlt x y with
    | false => rfl
    | true =>
      have := dlt_trans a b
      rw [dlt_irrefl] at this
      cases this
theorem dlt_total {x y : D} (ha : PySem.W.alike x y = true) (h1 : dlt x y = false) (h2 : dlt y x = false) : PyData.eqv x y = true := by
  have e := PyProof.Rows.lex_total _ _ h1 h2
  cases q : PyData.eqv x y with
  | true => rfl
  | false =>
    have z := (PySem.W.toks_eqv x y ha).2 q [] [.inl 0]
    rw [e, List.append_nil] at z
    have l : ∀ t : List (Int ⊕ List Nat), PyProof.Rows.lexLt itemOrd t (t ++ [.inl 0]) = true := fun t => by
      have := PySem.W.lex_pre t [] [.inl 0]
      rw [List.append_nil] at this
      rw [this]
      rfl
    rw [l, PyProof.Rows.lex_irrefl] at z
    cases z
theorem sortL_ok {ds : List D} (h : sortC ds = true) : sortL (.list ds) = .ok (ds.mergeSort (PySem.W.dataLe false id)) := if_pos h
theorem nodup_le {α : Type} [DecidableEq α] : ∀ (l m : List α), l.Nodup → (∀ x ∈ l, x ∈ m) → l.length ≤ m.length
  | [], _, _, _ => Nat.zero_le _
  | x :: l, m, hn, h => by
    obtain ⟨h1, h2⟩ := List.nodup_cons.mp hn
    have hx := h x List.mem_cons_self
    have := nodup_le l (m.erase x) h2 fun y hy => (List.mem_erase_of_ne (fun (e : y = x) => h1 (e ▸ hy))).mpr (h y (List.mem_cons_of_mem _ hy))
    rw [List.length_erase_of_mem hx] at this
    have := List.length_pos_of_mem hx
    rw [List.length_cons]
    omega
theorem len_ok {fa : En → Res D} {ρ : En} {ds : List D} {n : Nat} (ha : fa ρ = .ok (.list ds)) (hn : ds.length = n) : (eN (oneD lenD) (aC fa a0)) ρ = .ok (.int (n : Int)) := by
  rw [one_ok ha]
  subst hn
  rfl
end Pyr
set_option Elab.async false
set_option autoImplicit false
set_option linter.all false
set_option maxRecDepth 100000
set_option maxHeartbeats 4000000
namespace Com2
noncomputable section
open PySem PySem.Spec PyProof.Rows L2 Evl Pyr 
abbrev Tb := Str × Nat × Option Nat
def kyD : Option Nat → Pyr.D
  | none => .none
  | some k => .int (k : Int)
def tbD (t : Tb) : Pyr.D := .tuple [.str t.1, .int (t.2.1 : Int), kyD t.2.2]
abbrev Ft := Str × List Str
def ftD (f : Ft) : Pyr.D := .tuple [.str f.1, .tuple (f.2.map .str)]
def FtOk (f : Ft) : Prop := Wd f.1 ∧ ∀ w ∈ f.2, Wd w
theorem rows_f {r : List Str} (h : ∀ w ∈ r, Wd w) (n : Nat) : fD (n + 1) (.tuple (r.map .str)) = true := by
  show fDs n (r.map .str) = true
  refine fDs_all fun d hd => ?_
  obtain ⟨x, hx, rfl⟩ := List.mem_map.mp hd
  exact wd_f (h x hx) n
theorem strs_inj {r s : List Str} (h : r.map PyData.str = s.map .str) : r = s := List.map_inj_right (fun a b e => by injection e) |>.mp h
theorem ftE : Enc ftD FtOk where
  inj := fun x y h => by
    unfold ftD at h
    injection h with h
    injection h with h1 h
    injection h with h2 _
    injection h1 with h1
    injection h2 with h2
    exact Prod.ext h1 (strs_inj h2)
  nb := fun x => by
    show (true && (noB (.tuple (x.2.map .str)) && true)) = true
    rw [noB_strs]
    rfl
  fd := fun x h => by
    show (fD 49 (.str x.1) && (fD 49 (.tuple (x.2.map .str)) && true)) = true
    rw [wd_f h.1, rows_f h.2]
    rfl
theorem strE : Enc PyData.str Wd := ⟨fun x y h => by injection h, fun _ => rfl, fun x h => wd_f h 50⟩
def rwD (r : List Str) : Pyr.D := .tuple (r.map .str)
theorem rwE : Enc rwD fun r => ∀ w ∈ r, Wd w := ⟨fun x y h => strs_inj (by injection h), fun x => noB_strs x, fun x h => rows_f h 49⟩
def plc (S : List Tb) (x : Str) : Option Nat := (List.range' 0 S.length).find? fun k => decide (S[k]?.map (·.1) = some x)
theorem plc_some {S : List Tb} {x : Str} {k : Nat} (h : plc S x = some k) : ∃ hk : k < S.length, S[k].1 = x := by
  have a := List.mem_of_find?_eq_some h
  have b := List.find?_some h
  have hk : k < S.length := by have := (List.mem_range'_1.mp a).2; omega
  refine ⟨hk, ?_⟩
  simpa [List.getElem?_eq_getElem hk] using b
theorem plc_in {S : List Tb} {x : Str} (h : ∃ t ∈ S, t.1 = x) : ∃ k, plc S x = some k := by
  cases e : plc S x with
  | some k => exact ⟨k, rfl⟩
  | none =>
    obtain ⟨t, ht, rfl⟩ := h
    obtain ⟨i, hi, rfl⟩ := List.getElem_of_mem ht
    have := List.find?_eq_none.mp e i (List.mem_range'_1.mpr ⟨by omega, by omega⟩)
    simp [List.getElem?_eq_getElem hi] at this
theorem plc_least {S : List Tb} {x : Str} {k : Nat} (h : plc S x = some k) : ∀ j, j < k → S[j]?.map (·.1) ≠ some x := fun j hj e => by
  have := List.find?_range'_eq_some.mp h
  have := this.2.2 j (by omega) hj
  simp [e] at this
theorem tb_at {S : List Tb} {k : Nat} (hk : k < S.length) : atD (.list (S.map tbD)) (.int (k : Int)) = .ok (tbD S[k]) := at_list (by simp [hk])
theorem tb_0 (t : Tb) : atD (tbD t) (.int 0) = .ok (.str t.1) := run_atT0
theorem tb_1 (t : Tb) : atD (tbD t) (.int 1) = .ok (.int (t.2.1 : Int)) := run_atT1
theorem tb_2 (t : Tb) : atD (tbD t) (.int 2) = .ok (kyD t.2.2) := run_atT2
theorem v0_tb {t : Tb} {ρ : En} : eVar 0 (some (tbD t) :: ρ) = .ok (tbD t) := rfl
theorem v0_ft {t : Ft} {ρ : En} : eVar 0 (some (ftD t) :: ρ) = .ok (ftD t) := rfl
theorem ft_0 (t : Ft) : atD (ftD t) (.int 0) = .ok (.str t.1) := run_atT0
theorem ft_1 (t : Ft) : atD (ftD t) (.int 1) = .ok (rwD t.2) := run_atT1
theorem lplace_run (S : List Tb) (x : Str) (hS : S.length ≤ 1000) : m__law_place [.list (S.map tbD), .str x] = .ok (.val (.int (((plc S x).getD S.length : Nat) : Int))) := by
  have lS : (S.map tbD).length = S.length := List.length_map _
  rw [u__law_place]
  rw [defM_eq (np := 2) rfl]
  show outR (F__law_place [.val (.list (S.map tbD)), .val (.str x), .emp]) = _
  unfold F__law_place
  have hf := forF_find (t := Tg.nm 2) (F := B__law_place_0) (ρ := [.val (.list (S.map tbD)), .val (.str x), .emp]) (fun k : Nat => .int (k : Int)) (fun k => decide (S[k]?.map (·.1) = some x)) (fun k => .val (.int (k : Int))) (List.range' 0 S.length) fun k hk => by
    have hk : k < S.length := by have := (List.mem_range'_1.mp hk).2; omega
    refine ⟨_, rfl, fun h => ?_, fun h => .inl ?_⟩
    · have h : S[k].1 = x := by simpa [List.getElem?_eq_getElem hk] using h
      unfold B__law_place_0
      dsimp! [eL, tb_at hk, tb_0, h]
    · have h : ¬ S[k].1 = x := by simpa [List.getElem?_eq_getElem hk] using h
      unfold B__law_place_0
      dsimp! [eL, tb_at hk, tb_0, h]
  rw [← upto_map] at hf
  show outR (sSeq _ _ [.val (.list (S.map tbD)), .val (.str x), .emp]) = _
  have hr : (iF r1D (eN (oneD lenD) (aC (eVar 0) a0))) (frzE [.val (.list (S.map tbD)), .val (.str x), .emp]) = r1D (.int (S.length : Int)) := iF_ok (len_ok rfl lS)
  cases e : plc S x with
  | some k =>
    have e' : (List.range' 0 S.length).find? (fun k => decide (S[k]?.map (·.1) = some x)) = some k := e
    rw [e'] at hf
    rw [seq_ret (forN S.length (by omega) hr hf)]
    rfl
  | none =>
    have e' : (List.range' 0 S.length).find? (fun k => decide (S[k]?.map (·.1) = some x)) = none := e
    rw [e'] at hf
    rw [seq_ok (forN S.length (by omega) hr hf)]
    dsimp! [eL, lS, Option.getD_none]
theorem enumL_map {α : Type} (en : α → Pyr.D) : ∀ (xs : List α) (lo : Nat), enumL lo (xs.map en) = (List.range' lo xs.length).map fun k => .tuple [.int (k : Int), ((xs[k - lo]?).map en).getD .none]
  | [], _ => rfl
  | x :: xs, lo => by
    show PyData.tuple [.int (lo : Int), en x] :: enumL (lo + 1) (xs.map en) = _
    rw [enumL_map en xs (lo + 1), List.length_cons, List.range'_succ, List.map_cons]
    congr 1
    · simp
    · refine List.map_congr_left fun k hk => ?_
      have := (List.mem_range'_1.mp hk).1
      rw [show k - lo = (k - (lo + 1)) + 1 by omega, List.getElem?_cons_succ]
theorem place_run (S : List Tb) (x : Str) (hS : S.length ≤ 1000) : m_place_of [.list (S.map tbD), .str x] = .ok (.val (match plc S x with
    | some k => .int (k : Int)
    | none => .none)) := by
  rw [u_place_of]
  rw [defM_eq (np := 2) rfl]
  show outR (F_place_of [.val (.list (S.map tbD)), .val (.str x), .emp, .emp]) = _
  unfold F_place_of
  have hf := forF_find (t := Tg.tp [2, 3]) (F := B_place_of_0) (ρ := [.val (.list (S.map tbD)), .val (.str x), .emp, .emp]) (fun k : Nat => .tuple [.int (k : Int), ((S[k - 0]?).map tbD).getD .none]) (fun k => decide (S[k]?.map (·.1) = some x)) (fun k => .val (.int (k : Int))) (List.range' 0 S.length) fun k hk => by
    have hk : k < S.length := by have := (List.mem_range'_1.mp hk).2; omega
    have q : ((S[k - 0]?).map tbD).getD .none = tbD S[k] := by rw [Nat.sub_zero, List.getElem?_eq_getElem hk]; rfl
    rw [q]
    refine ⟨_, rfl, fun h => ?_, fun h => .inl ?_⟩
    · have h : S[k].1 = x := by simpa [List.getElem?_eq_getElem hk] using h
      unfold B_place_of_0
      dsimp! [eL, setsF, tb_0, v0_tb, h]
    · have h : ¬ S[k].1 = x := by simpa [List.getElem?_eq_getElem hk] using h
      unfold B_place_of_0
      dsimp! [eL, setsF, tb_0, v0_tb, h]
  have hr : (iF enumD (eVar 0)) (purE [.val (.list (S.map tbD)), .val (.str x), .emp, .emp]) = .ok (enumL 0 (S.map tbD)) := rfl
  have he := enumL_map tbD S 0
  have he : enumL 0 (S.map tbD) = _ := he
  show outR (sSeq _ _ [.val (.list (S.map tbD)), .val (.str x), .emp, .emp]) = _
  rw [← he] at hf
  cases e : plc S x with
  | some k =>
    have e' : (List.range' 0 S.length).find? (fun k => decide (S[k]?.map (·.1) = some x)) = some k := e
    rw [e'] at hf
    rw [seq_ret ((for_ok hr).trans hf)]
    rfl
  | none =>
    have e' : (List.range' 0 S.length).find? (fun k => decide (S[k]?.map (·.1) = some x)) = none := e
    rw [e'] at hf
    rw [seq_ok ((for_ok hr).trans hf)]
    rfl
end
end Com2
set_option Elab.async false
set_option autoImplicit false
set_option linter.all false
set_option maxRecDepth 100000
set_option maxHeartbeats 4000000
namespace Com2
noncomputable section
open PySem PySem.Spec PyProof.Rows L2 Evl Pyr 
def prD (p : Nat × List Str) : Pyr.D := .tuple [.int (p.1 : Int), .tuple (p.2.map .str)]
def keyP (S : List Tb) (f : Ft) : Nat × List Str := ((plc S f.1).getD S.length, f.2)
def leF (S : List Tb) (f g : Ft) : Bool := PySem.W.dataLe false id (prD (keyP S f)) (prD (keyP S g))
def dstep {α : Type} [DecidableEq α] (acc : List α) (f : α) : List α := if f ∈ acc then acc else acc ++ [f]
def ddp {α : Type} [DecidableEq α] (xs : List α) : List α := xs.foldl dstep []
def ascF (S : List Tb) (fs : List Ft) : List Ft := ddp (fs.mergeSort (leF S))
theorem alike_strs : ∀ r s : List Str, PySem.W.alikeAll (r.map .str) (s.map .str) = true
  | [], _ => rfl
  | _ :: _, [] => rfl
  | x :: r, y :: s => by
    show (PySem.W.alike (.str x) (.str y) && PySem.W.alikeAll (r.map .str) (s.map .str)) = true
    rw [alike_strs r s]
    rfl
theorem alike_pr (p q : Nat × List Str) : PySem.W.alike (prD p) (prD q) = true := by
  show (true && (PySem.W.alikeAll (p.2.map .str) (q.2.map .str) && true)) = true
  rw [alike_strs]
  rfl
theorem flat_strs : ∀ r : List Str, flatsD (r.map .str) = true ∧ PyData.depthAll (r.map .str) = 0
  | [] => ⟨rfl, rfl⟩
  | x :: r => by
    obtain ⟨a, b⟩ := flat_strs r
    exact ⟨by show (true && flatsD (r.map .str)) = true; rw [a]; rfl, by show max 0 (PyData.depthAll (r.map .str)) = 0; rw [b]; rfl⟩
theorem sort_pr (ps : List (Nat × List Str)) (h : ps.length ≤ 100000) : sortC (ps.map prD) = true := by
  unfold sortC
  simp only [Bool.and_eq_true]
  refine ⟨⟨⟨?_, ?_⟩, ?_⟩, decide_eq_true (by rw [List.length_map]; exact h)⟩
  · refine List.all_eq_true.mpr fun d hd => List.all_eq_true.mpr fun e he => ?_
    obtain ⟨p, _, rfl⟩ := List.mem_map.mp hd
    obtain ⟨q, _, rfl⟩ := List.mem_map.mp he
    exact alike_pr p q
  · unfold sortableB
    rw [Bool.or_eq_true]
    refine .inl (List.all_eq_true.mpr fun d hd => ?_)
    obtain ⟨p, _, rfl⟩ := List.mem_map.mp hd
    rfl
  · refine List.all_eq_true.mpr fun d hd => ?_
    obtain ⟨p, _, rfl⟩ := List.mem_map.mp hd
    obtain ⟨a, b⟩ := flat_strs p.2
    rw [Bool.and_eq_true]
    refine ⟨by show (true && (flatsD (p.2.map .str) && true)) = true; rw [a]; rfl, decide_eq_true ?_⟩
    show max 0 (max (PyData.depthAll (p.2.map .str) + 1) 0) + 1 ≤ 12
    rw [b]
    decide
def InS (S : List Tb) (fs : List Ft) : Prop := ∀ f ∈ fs, FtOk f ∧ ∃ t ∈ S, t.1 = f.1
theorem asc_run (S : List Tb) (fs : List Ft) (hS : S.length ≤ 100) (hf : fs.length ≤ 10000) (h : InS S fs) : m__law_ascending [.list (S.map tbD), .list (fs.map ftD)] = .ok (.own ((ascF S fs).map ftD)) := by
  rw [u__law_ascending]
  rw [defM_eq (np := 2) rfl]
  show outR (F__law_ascending [.val (.list (S.map tbD)), .val (.list (fs.map ftD)), .emp, .emp, .emp, .emp]) = _
  unfold F__law_ascending
  rw [seq_ok (setL_ok (d := []) rfl)]
  have perm := List.mergeSort_perm fs (leF S)
  have hsort : (fs.map fun f => prD (keyP S f)).mergeSort (PySem.W.dataLe false id) = (fs.mergeSort (leF S)).map fun f => prD (keyP S f) := (List.map_mergeSort (r := leF S) (s := PySem.W.dataLe false id) (f := fun f => prD (keyP S f)) fun _ _ _ _ => rfl).symm
  have hit : (iF walkD fun ρ => ((lF (oneL sortL) (aC (eL (lComp [5] (Tg.nm 5) (iF walkD (eVar 1)) tYesR (eN tupD (aC (eCall m__law_place (aC (eVar 0) (aC (Pyr.e2 atD (eVar 5) (eC (.int 0))) a0))) (aC (Pyr.e2 atD (eVar 5) (eC (.int 1))) a0))))) a0)) ρ).map PyData.list) (purE [.val (.list (S.map tbD)), .val (.list (fs.map ftD)), .own (.lst []), .emp, .emp, .emp]) = .ok ((fs.mergeSort (leF S)).map fun f => prD (keyP S f)) := by
    refine (iF_ok (mapL_ok (ds := (fs.mergeSort (leF S)).map fun f => prD (keyP S f)) ?_)).trans rfl
    have hc : (lComp [5] (Tg.nm 5) (iF walkD (eVar 1)) tYesR (eN tupD (aC (eCall m__law_place (aC (eVar 0) (aC (Pyr.e2 atD (eVar 5) (eC (.int 0))) a0))) (aC (Pyr.e2 atD (eVar 5) (eC (.int 1))) a0)))) (purE [.val (.list (S.map tbD)), .val (.list (fs.map ftD)), .own (.lst []), .emp, .emp, .emp]) = .ok (fs.map fun f => prD (keyP S f)) := by
      refine lComp_ok (ds := fs.map ftD) rfl (by rw [List.length_map]; omega) (compF_en _ _ _ fun f hf => ⟨_, rfl, rfl, ?_⟩)
      have hp := lplace_run S f.1 (by omega)
      dsimp! [eL, wipeE, tgE, v0_ft, ft_0, ft_1, hp]
      rfl
    show ((((lComp [5] (Tg.nm 5) (iF walkD (eVar 1)) tYesR _ _).map PyData.list).bind fun x => Res.ok [x]).bind (oneL sortL)) = _
    rw [hc]
    show sortL (.list (fs.map fun f => prD (keyP S f))) = _
    have : sortC ((fs.map (keyP S)).map prD) = true := sort_pr _ (by rw [List.length_map]; omega)
    rw [List.map_map] at this
    rw [sortL_ok (ds := fs.map fun f => prD (keyP S f)) this, ← hsort]
  obtain ⟨e, i⟩ := forF_fold (t := Tg.tp [3, 4]) (F := B__law_ascending_0) (fun f => prD (keyP S f)) (fun acc : List Ft => [.val (.list (S.map tbD)), .val (.list (fs.map ftD)), .own (.lst (acc.map ftD)), .emp, .emp, .emp]) dstep (fun acc => (∀ f ∈ acc, f ∈ fs) ∧ acc.Nodup) (fs.mergeSort (leF S)) [] ⟨(fun f h => nomatch h), List.nodup_nil⟩ fun acc f hf' ⟨i1, i2⟩ => by
    have hm := perm.mem_iff.mp hf'
    obtain ⟨ok, t, ht, en⟩ := h f hm
    obtain ⟨k, hk⟩ := plc_in ⟨t, ht, en⟩
    obtain ⟨hk1, hk2⟩ := plc_some hk
    have ek : (keyP S f).1 = k := by unfold keyP; rw [hk]; rfl
    have ni : notInD (ftD f) (.list (acc.map ftD)) = .ok (.bool (!decide (f ∈ acc))) := ftE.notInD (fun g hg => (h g (i1 g hg)).1) ok
    have ni : notInD (.tuple [.str f.1, .tuple ((keyP S f).2.map .str)]) (.list (acc.map ftD)) = .ok (.bool (!decide (f ∈ acc))) := ni
    have hat : atD (.list (S.map tbD)) (.int ((keyP S f).1 : Int)) = .ok (tbD S[k]) := by rw [ek]; exact tb_at hk1
    have hl : acc.length ≤ 10000 := Nat.le_trans (nodup_le acc fs i2 i1) hf
    have la : (acc.map ftD).length = acc.length := List.length_map _
    by_cases q : f ∈ acc
    · rw [show dstep acc f = acc from if_pos q]
      refine ⟨⟨_, rfl, .inl ?_⟩, i1, i2⟩
      unfold B__law_ascending_0
      dsimp! [eL, setsF, hat, tb_0, hk2, ni, q]
    · rw [show dstep acc f = acc ++ [f] from if_neg q]
      refine ⟨⟨_, rfl, .inl ?_⟩, fun g hg => ?_, ?_⟩
      · unfold B__law_ascending_0
        dsimp! [eL, setsF, hat, tb_0, hk2, ni, q, la, List.map_append, List.map_cons, List.map_nil]
        rfl
      · rcases List.mem_append.mp hg with hg | hg
        · exact i1 g hg
        · rw [List.mem_singleton.mp hg]
          exact hm
      · exact List.nodup_append.mpr ⟨i2, by simp, fun a ha b hb => by rw [List.mem_singleton.mp hb]; exact fun e => q (e ▸ ha)⟩
  show outR (sSeq (sFor (Tg.tp [3, 4]) _ B__law_ascending_0) _ [.val (.list (S.map tbD)), .val (.list (fs.map ftD)), .own (.lst []), .emp, .emp, .emp]) = _
  rw [seq_ok ((for_ok hit).trans e)]
  rfl
theorem dstep_mem {α : Type} [DecidableEq α] (acc : List α) (f x : α) : x ∈ dstep acc f ↔ x ∈ acc ∨ x = f := by
  unfold dstep
  split
  · rename_i h
    exact ⟨.inl, fun z => z.elim id fun e => e ▸ h⟩
  · rw [List.mem_append, List.mem_singleton]
theorem foldl_mem {α : Type} [DecidableEq α] : ∀ (xs acc : List α) (x : α), x ∈ xs.foldl dstep acc ↔ x ∈ acc ∨ x ∈ xs
  | [], acc, x => by simp
  | f :: xs, acc, x => by
    rw [List.foldl_cons, foldl_mem xs, dstep_mem, List.mem_cons]
    exact ⟨fun h => h.elim (fun h => h.elim .inl fun h => .inr (.inl h)) fun h => .inr (.inr h), fun h => h.elim (fun h => .inl (.inl h)) fun h => h.elim (fun h => .inl (.inr h)) .inr⟩
theorem foldl_nodup {α : Type} [DecidableEq α] : ∀ (xs acc : List α), acc.Nodup → (xs.foldl dstep acc).Nodup
  | [], acc, h => h
  | f :: xs, acc, h => by
    rw [List.foldl_cons]
    refine foldl_nodup xs _ ?_
    unfold dstep
    split
    · exact h
    · rename_i q
      exact List.nodup_append.mpr ⟨h, by simp, fun a ha b hb => by rw [List.mem_singleton.mp hb]; exact fun e => q (e ▸ ha)⟩
theorem ddp_mem {α : Type} [DecidableEq α] {xs : List α} {x : α} : x ∈ ddp xs ↔ x ∈ xs := by
  unfold ddp
  rw [foldl_mem]
  simp
theorem ddp_nodup {α : Type} [DecidableEq α] (xs : List α) : (ddp xs).Nodup := foldl_nodup xs [] List.nodup_nil
theorem asc_mem {S : List Tb} {fs : List Ft} {f : Ft} : f ∈ ascF S fs ↔ f ∈ fs := ddp_mem.trans (List.mergeSort_perm fs (leF S)).mem_iff
theorem asc_nodup (S : List Tb) (fs : List Ft) : (ascF S fs).Nodup := ddp_nodup _
theorem asc_le (S : List Tb) (fs : List Ft) : (ascF S fs).length ≤ fs.length := nodup_le _ _ (asc_nodup S fs) fun _ h => asc_mem.mp h
end
end Com2
set_option Elab.async false
set_option autoImplicit false
set_option linter.all false
set_option maxRecDepth 100000
set_option maxHeartbeats 4000000
namespace Pyr
open PySem PySem.Spec PyProof.Rows L2 Evl
section
variable {K : PySem.W.Frag} {G : Hp}
end
section
variable {X : Cx}
end
end Pyr
set_option Elab.async false
set_option autoImplicit false
set_option linter.all false
set_option maxRecDepth 100000
set_option maxHeartbeats 4000000
namespace Pyr
open PySem PySem.Spec PyProof.Rows L2 Evl
structure Keyed (K : PySem.W.Frag) (H : Hp) (ps : List (Addr × NestedKey)) : Prop where
  ex : ∃ ds : List D, Rps K H (ps.map fun e => V.ref e.1) ds ∧ nks ds = ps.map (·.2) ∧ keysB ds = true ∧ ∀ d ∈ ds, d.depth ≤ 8
theorem Keyed.at {X : Cx} {pins : List (Addr × Obj)} {σ : L2.St} {H : Hp} {s : Shared} {ps : List (Addr × NestedKey)} (I : Inv X pins σ H s) (k : Keyed X.K H ps) : ∀ e ∈ ps, KAt s.heap e.2 e.1 := by
  obtain ⟨ds, r, hk, hb, hd⟩ := k.ex
  exact keys_in I r hk hb hd
section
variable {X : Cx}
end
end Pyr
set_option Elab.async false
set_option autoImplicit false
set_option linter.all false
set_option maxRecDepth 100000
set_option maxHeartbeats 4000000
namespace Pyr
open PySem PySem.Spec PyProof.Rows L2 Evl
section
variable {TS : TabList} {X : Cx} {tg iter elt : Expr} {fi : En → Res (List D)} {tt : En → Res Bool} {fe : En → Res D} {ifs : List Expr} {pos : Pos} {t : Tg} {scope : Scope} {own : List (Str × Nat)}
end
end Pyr
set_option Elab.async false
set_option autoImplicit false
set_option linter.all false
set_option maxRecDepth 100000
set_option maxHeartbeats 4000000
namespace Com2
noncomputable section
open PySem PySem.Spec PyProof.Rows L2 Evl Pyr 
def B__law_schema_0 : Frm → Res Fl := (sSeq (sSet 4 (e2 addD (eC (.int 1)) (e2 modD (eN (oneD int2D) (aC (e2 atD (eVar 0) (e2 addD (eC (.int 1)) (e2 mul2D (eC (.int 2)) (eVar 3)))) a0)) (eC (.int 4)))))
  (sSeq (sSet 5 (eC .none))
  (sSeq (sIf (tE boolD (e2 gtD (e2 modD (eN (oneD int2D) (aC (e2 atD (eVar 0) (e2 addD (eC (.int 2)) (e2 mul2D (eC (.int 2)) (eVar 3)))) a0)) (eC (.int 3))) (eC (.int 0)))) (sSet 5 (e2 addD (eC (.int 1)) (e2 modD (eN (oneD int2D) (aC (e2 fdivD (e2 atD (eVar 0) (e2 addD (eC (.int 2)) (e2 mul2D (eC (.int 2)) (eVar 3)))) (eC (.int 3))) a0)) (eVar 4)))) sNext)
  (sSeq (sApp 2 (eN tupD (aC (e2 atD (eVar 1) (eVar 3)) (aC (eVar 4) (aC (eVar 5) a0)))))
  (sKill [3, 4, 5] sNext)))))
def F__law_schema : Frm → Res Fl := (sSeq (sSetL 2 (lN a0))
  (sKill [3, 4, 5] (sSeq (sForR (Tg.nm 3) (iF r1D (e2 atD (eL (lN (aC (eC (.int 1)) (aC (eC (.int 2)) (aC (eC (.int 1)) (aC (eC (.int 2)) (aC (eC (.int 2)) (aC (eC (.int 3)) (aC (eC (.int 1)) (aC (eC (.int 4)) a0)))))))))) (e2 modD (eN (oneD int2D) (aC (e2 atD (eVar 0) (eC (.int 0))) a0)) (eC (.int 8))))) B__law_schema_0)
  (sKill [3, 4, 5] (sRetO 2)))))
noncomputable def m__law_schema : List D → Res RV := hid (defM 2 6 F__law_schema)
theorem u__law_schema : m__law_schema = defM 2 6 F__law_schema := hid_eq _
def F__law_fact : Frm → Res Fl := (sSeq (sSet 3 (e2 atD (eVar 0) (e2 modD (eN (oneD int2D) (aC (e2 atD (eVar 2) (eC (.int 0))) a0)) (eN (oneD lenD) (aC (eVar 0) a0)))))
  (sRet (eN tupD (aC (e2 atD (eVar 3) (eC (.int 0))) (aC (eN (oneD fun d => (itemsD d).map .tuple) (aC (eL (lComp [4] (Tg.nm 4) (iF r1D (e2 atD (eVar 3) (eC (.int 1)))) tYesR (e2 atD (eVar 1) (e2 modD (eN (oneD int2D) (aC (e2 atD (eVar 2) (e2 addD (eC (.int 1)) (eVar 4))) a0)) (eN (oneD lenD) (aC (eVar 1) a0)))))) a0)) a0)))))
noncomputable def m__law_fact : List D → Res RV := hid (defM 3 5 F__law_fact)
theorem u__law_fact : m__law_fact = defM 3 5 F__law_fact := hid_eq _
def F__law_facts : Frm → Res Fl := (sRetL (lComp [4] (Tg.nm 4) (iF r1D (eVar 3)) tYesR (eCall m__law_fact (aC (eVar 0) (aC (eVar 1) (aC (eSlice (eVar 2) (oSome (e2 mul2D (eC (.int 5)) (eVar 4))) (oSome (e2 addD (e2 mul2D (eC (.int 5)) (eVar 4)) (eC (.int 5))))) a0))))))
noncomputable def m__law_facts : List D → Res RV := hid (defM 4 5 F__law_facts)
theorem u__law_facts : m__law_facts = defM 4 5 F__law_facts := hid_eq _
theorem cut_at {α : Type} (xs : List α) (a b : Nat) : cutG xs (some (a : Int)) (some (b : Int)) = (xs.drop (min a xs.length)).take (min b xs.length - min a xs.length) := by
  unfold cutG
  rw [HT.sIx_nat, HT.sIx_nat]
theorem cut_map (vs : List Int) (a b : Nat) (h : a ≤ b) (hb : b ≤ vs.length) : cutG (vs.map PyData.int) (some (a : Int)) (some (b : Int)) = ((vs.drop a).take (b - a)).map .int := by
  rw [cut_at, List.length_map, Nat.min_eq_left hb, Nat.min_eq_left (show a ≤ vs.length by omega), ← List.map_drop, ← List.map_take]
theorem int_at {vs : List Int} {k : Nat} (hk : k < vs.length) : atD (.list (vs.map .int)) (.int (k : Int)) = .ok (.int vs[k]) := at_list (by simp [hk])
theorem str_at {ws : List Str} {k : Nat} (hk : k < ws.length) : atD (.list (ws.map .str)) (.int (k : Int)) = .ok (.str ws[k]) := at_list (by simp [hk])
def TbOk2 (ws : List Str) (t : Tb) : Prop := t.1 ∈ ws ∧ 1 ≤ t.2.1 ∧ t.2.1 ≤ 4 ∧ ∀ k, t.2.2 = some k → 1 ≤ k ∧ k ≤ 4
theorem schema_run (vs : List Int) (ws : List Str) (hv : vs.length = 9) (hw : 4 ≤ ws.length) : ∃ S : List Tb, m__law_schema [.list (vs.map .int), .list (ws.map .str)] = .ok (.own (S.map tbD)) ∧ 1 ≤ S.length ∧ S.length ≤ 4 ∧ ∀ t ∈ S, TbOk2 ws t := by
  have h0 : atD (.list (vs.map .int)) (.int 0) = .ok (.int vs[0]) := int_at (k := 0) (by omega)
  obtain ⟨n, en, hn⟩ := fmod_nat vs[0] (m := 8) (by decide)
  have en : vs[0].fmod 8 = (n : Int) := en
  obtain ⟨c, hc, c1, c4⟩ : ∃ c : Nat, atD (.list [.int 1, .int 2, .int 1, .int 2, .int 2, .int 3, .int 1, .int 4]) (.int (n : Int)) = .ok (.int (c : Int)) ∧ 1 ≤ c ∧ c ≤ 4 := by
    have : n = 0 ∨ n = 1 ∨ n = 2 ∨ n = 3 ∨ n = 4 ∨ n = 5 ∨ n = 6 ∨ n = 7 := by omega
    rcases this with e | e | e | e | e | e | e | e <;> subst e
    · exact ⟨1, rfl, by decide, by decide⟩
    · exact ⟨2, rfl, by decide, by decide⟩
    · exact ⟨1, rfl, by decide, by decide⟩
    · exact ⟨2, rfl, by decide, by decide⟩
    · exact ⟨2, rfl, by decide, by decide⟩
    · exact ⟨3, rfl, by decide, by decide⟩
    · exact ⟨1, rfl, by decide, by decide⟩
    · exact ⟨4, rfl, by decide, by decide⟩
  obtain ⟨S, e, i1, i2⟩ := forF_exN (S := List Tb) (t := Tg.nm 3) (F := B__law_schema_0) (fun S => [.val (.list (vs.map .int)), .val (.list (ws.map .str)), .own (.lst (S.map tbD)), .emp, .emp, .emp])
    (fun k S => S.length = k ∧ ∀ t ∈ S, TbOk2 ws t) c 0 [] ⟨rfl, fun t h => nomatch h⟩ fun k S _ hk ⟨i1, i2⟩ => by
      have lS : (S.map tbD).length = S.length := List.length_map _
      have a1 : atD (.list (vs.map .int)) (.int (1 + 2 * (k : Int))) = .ok (.int vs[1 + 2 * k]) := int_at (k := 1 + 2 * k) (by omega)
      have a2 : atD (.list (vs.map .int)) (.int (2 + 2 * (k : Int))) = .ok (.int vs[2 + 2 * k]) := int_at (k := 2 + 2 * k) (by omega)
      have a3 := str_at (ws := ws) (k := k) (by omega)
      obtain ⟨w, ew, hw'⟩ := fmod_nat vs[1 + 2 * k] (m := 4) (by decide)
      have ew : vs[1 + 2 * k].fmod 4 = (w : Int) := ew
      by_cases q : (0 : Int) < vs[2 + 2 * k].fmod 3
      · obtain ⟨c, ec, hc⟩ := fmod_nat (vs[2 + 2 * k].fdiv 3) (m := 1 + w) (by omega)
        have ec : (vs[2 + 2 * k].fdiv 3).fmod (1 + (w : Int)) = (c : Int) := by rw [show (1 + (w : Int)) = ((1 + w : Nat) : Int) by omega]; exact ec
        refine ⟨S ++ [(ws[k], 1 + w, some (1 + c))], _, rfl, .inl ?_, by rw [List.length_append, i1]; rfl, fun t ht => ?_⟩
        · unfold B__law_schema_0
          dsimp! [eL, a1, a2, a3, ew, q, ec, lS, List.map_append, List.map_cons, List.map_nil]
          simp only [tbD, kyD, Int.natCast_add, Int.natCast_one, Int.cast_ofNat_Int]
        · rcases List.mem_append.mp ht with ht | ht
          · exact i2 t ht
          · rw [List.mem_singleton.mp ht]
            exact ⟨List.getElem_mem _, by show 1 ≤ 1 + w; omega, by show 1 + w ≤ 4; omega, fun k hk => by cases hk; omega⟩
      · refine ⟨S ++ [(ws[k], 1 + w, none)], _, rfl, .inl ?_, by rw [List.length_append, i1]; rfl, fun t ht => ?_⟩
        · unfold B__law_schema_0
          dsimp! [eL, a1, a2, a3, ew, q, lS, List.map_append, List.map_cons, List.map_nil]
          simp only [tbD, kyD, Int.natCast_add, Int.natCast_one, Int.cast_ofNat_Int]
        · rcases List.mem_append.mp ht with ht | ht
          · exact i2 t ht
          · rw [List.mem_singleton.mp ht]
            exact ⟨List.getElem_mem _, by show 1 ≤ 1 + w; omega, by show 1 + w ≤ 4; omega, fun k hk => nomatch hk⟩
  rw [Nat.zero_add] at i1
  refine ⟨S, ?_, by omega, by omega, i2⟩
  have e : forF (Tg.nm 3) B__law_schema_0 (upto 0 c) [.val (.list (vs.map .int)), .val (.list (ws.map .str)), .own (.lst []), .emp, .emp, .emp] = .ok (.next [.val (.list (vs.map .int)), .val (.list (ws.map .str)), .own (.lst (S.map tbD)), .emp, .emp, .emp]) := e
  rw [u__law_schema]
  rw [defM_eq (np := 2) rfl]
  show outR (F__law_schema [.val (.list (vs.map .int)), .val (.list (ws.map .str)), .emp, .emp, .emp, .emp]) = _
  unfold F__law_schema
  rw [seq_ok (setL_ok (d := []) rfl)]
  show outR (sSeq _ _ [.val (.list (vs.map .int)), .val (.list (ws.map .str)), .own (.lst []), .emp, .emp, .emp]) = _
  rw [seq_ok (forN c (by omega) ?_ e)]
  · rfl
  · refine iF_ok (x := .int (c : Int)) ?_
    dsimp! [eL, h0, en, hc]
theorem fact_run (S : List Tb) (ws : List Str) (vs : List Int) (hS : 1 ≤ S.length) (hS4 : S.length ≤ 4) (hw : 1 ≤ ws.length) (ht : ∀ t ∈ S, 1 ≤ t.2.1 ∧ t.2.1 ≤ 4) (hv : vs.length = 5) :
    ∃ f : Ft, m__law_fact [.list (S.map tbD), .list (ws.map .str), .list (vs.map .int)] = .ok (.val (ftD f)) ∧ (∃ t ∈ S, t.1 = f.1 ∧ f.2.length = t.2.1) ∧ ∀ w ∈ f.2, w ∈ ws := by
  have lS : (S.map tbD).length = S.length := List.length_map _
  have lw : (ws.map PyData.str).length = ws.length := List.length_map _
  have a0 : atD (.list (vs.map .int)) (.int 0) = .ok (.int vs[0]) := int_at (k := 0) (by omega)
  obtain ⟨n, en, hn⟩ := fmod_nat vs[0] (m := S.length) hS
  have an := tb_at (S := S) hn
  obtain ⟨t1, t2⟩ := ht S[n] (List.getElem_mem hn)
  obtain ⟨g, hg⟩ : ∃ g : Nat → Nat, ∀ k : Nat, ∀ v : Int, vs[1 + k]? = some v → v.fmod (ws.length : Int) = (g k : Int) ∧ g k < ws.length := by
    refine ⟨fun k => ((vs.getD (1 + k) 0).fmod (ws.length : Int)).toNat, fun k v hv => ?_⟩
    obtain ⟨j, ej, hj⟩ := fmod_nat v (m := ws.length) hw
    have : vs.getD (1 + k) 0 = v := by rw [List.getD_eq_getElem?_getD, hv]; rfl
    dsimp only
    rw [this, ej]
    exact ⟨by simp, by simpa using hj⟩
  refine ⟨(S[n].1, (List.range' 0 S[n].2.1).map fun k => ws.getD (g k) Str.empty), ?_, ⟨S[n], List.getElem_mem hn, rfl, by rw [List.length_map, List.length_range']⟩, fun w hw => ?_⟩
  · rw [u__law_fact]
    rw [defM_eq (np := 3) rfl]
    show outR (F__law_fact [.val (.list (S.map tbD)), .val (.list (ws.map .str)), .val (.list (vs.map .int)), .emp, .emp]) = _
    unfold F__law_fact
    have hS0 : (0 : Int) < (S.length : Int) := by omega
    rw [seq_ok (ρ' := [.val (.list (S.map tbD)), .val (.list (ws.map .str)), .val (.list (vs.map .int)), .val (tbD S[n]), .emp]) (by dsimp! [eL, a0, lS, en, an])]
    have hr : r1D (.int (S[n].2.1 : Int)) = .ok ((List.range' 0 S[n].2.1).map fun k : Nat => .int (k : Int)) := (r1D_nat (by show _ ≤ 100000; omega)).trans (congrArg Res.ok (upto_map _ 0))
    have hc : (lComp [4] (Tg.nm 4) (iF r1D (Pyr.e2 atD (eVar 3) (eC (.int 1)))) tYesR (Pyr.e2 atD (eVar 1) (Pyr.e2 modD (eN (oneD int2D) (aC (Pyr.e2 atD (eVar 2) (Pyr.e2 addD (eC (.int 1)) (eVar 4))) Pyr.a0)) (eN (oneD lenD) (aC (eVar 1) Pyr.a0))))) (purE [.val (.list (S.map tbD)), .val (.list (ws.map .str)), .val (.list (vs.map .int)), .val (tbD S[n]), .emp]) = .ok (((List.range' 0 S[n].2.1).map fun k => ws.getD (g k) Str.empty).map .str) := by
      rw [List.map_map]
      refine lComp_ok ((iF_ok (x := .int (S[n].2.1 : Int)) ?_).trans hr) (by rw [List.length_map, List.length_range']; omega) (compF_en _ _ _ fun k hk => ⟨_, rfl, rfl, ?_⟩)
      · dsimp! [eL, v0_tb, tb_1]
      · have hk := (List.mem_range'_1.mp hk).2
        have a1 : atD (.list (vs.map .int)) (.int (1 + (k : Int))) = .ok (.int vs[1 + k]) := int_at (k := 1 + k) (by omega)
        obtain ⟨g1, g2⟩ := hg k vs[1 + k] (List.getElem?_eq_getElem _)
        have a2 := str_at g2
        dsimp! [eL, wipeE, tgE, a1, lw, g1, a2, Function.comp]
        rw [List.getD_eq_getElem?_getD, List.getElem?_eq_getElem g2]
        rfl
    rw [ret_ok (d := ftD (S[n].1, (List.range' 0 S[n].2.1).map fun k => ws.getD (g k) Str.empty))]
    · rfl
    · refine (eN_ok (xs := [.str S[n].1, .tuple (((List.range' 0 S[n].2.1).map fun k => ws.getD (g k) Str.empty).map .str)]) (aC_ok ?_ (aC_ok ?_ rfl))).trans rfl
      · dsimp! [eL, v0_tb, tb_0]
      · show (((Res.map PyData.list (lComp [4] (Tg.nm 4) _ tYesR _ _)).bind fun x => Res.ok [x]).bind (oneD _)) = _
        rw [hc]
        rfl
  · obtain ⟨k, hk, rfl⟩ := List.mem_map.mp hw
    have hk := (List.mem_range'_1.mp hk).2
    obtain ⟨g1, g2⟩ := hg k vs[1 + k] (List.getElem?_eq_getElem (by omega))
    rw [List.getD_eq_getElem?_getD, List.getElem?_eq_getElem g2]
    exact List.getElem_mem _
theorem unmap {α : Type} {en : α → Pyr.D} {Q : α → Prop} : ∀ ys : List Pyr.D, (∀ y ∈ ys, ∃ f, y = en f ∧ Q f) → ∃ fs : List α, ys = fs.map en ∧ ∀ f ∈ fs, Q f
  | [], _ => ⟨[], rfl, fun f h => nomatch h⟩
  | y :: ys, h => by
    obtain ⟨f, rfl, q⟩ := h y List.mem_cons_self
    obtain ⟨fs, rfl, r⟩ := unmap ys fun z hz => h z (List.mem_cons_of_mem _ hz)
    exact ⟨f :: fs, rfl, fun g hg => (List.mem_cons.mp hg).elim (fun e => e ▸ q) (r g)⟩
def FtIn (S : List Tb) (ws : List Str) (f : Ft) : Prop := (∃ t ∈ S, t.1 = f.1 ∧ f.2.length = t.2.1) ∧ ∀ w ∈ f.2, w ∈ ws
theorem facts_run (S : List Tb) (ws : List Str) (vs : List Int) (m : Nat) (hS : 1 ≤ S.length) (hS4 : S.length ≤ 4) (hw : 1 ≤ ws.length) (ht : ∀ t ∈ S, 1 ≤ t.2.1 ∧ t.2.1 ≤ 4) (hv : 5 * m ≤ vs.length) (hm : m ≤ 1000) :
    ∃ fs : List Ft, m__law_facts [.list (S.map tbD), .list (ws.map .str), .list (vs.map .int), .int (m : Int)] = .ok (.own (fs.map ftD)) ∧ fs.length = m ∧ ∀ f ∈ fs, FtIn S ws f := by
  have hr : r1D (.int (m : Int)) = .ok ((List.range' 0 m).map fun k : Nat => .int (k : Int)) := (r1D_nat (by show _ ≤ 100000; omega)).trans (congrArg Res.ok (upto_map _ 0))
  rw [u__law_facts]
  rw [defM_eq (np := 4) rfl]
  show ∃ fs : List Ft, outR (F__law_facts [.val (.list (S.map tbD)), .val (.list (ws.map .str)), .val (.list (vs.map .int)), .val (.int (m : Int)), .emp]) = _ ∧ _
  unfold F__law_facts
  obtain ⟨ys, e, hl, hy⟩ := compF_exP (t := Tg.nm 4) (tt := tYesR) (fe := eCall m__law_fact (aC (eVar 0) (aC (eVar 1) (aC (eSlice (eVar 2) (oSome (Pyr.e2 mul2D (eC (.int 5)) (eVar 4))) (oSome (Pyr.e2 addD (Pyr.e2 mul2D (eC (.int 5)) (eVar 4)) (eC (.int 5))))) Pyr.a0))))
    (ρ := wipeE (purE [.val (.list (S.map tbD)), .val (.list (ws.map .str)), .val (.list (vs.map .int)), .val (.int (m : Int)), .emp]) [4]) (fun _ y => ∃ f, y = ftD f ∧ FtIn S ws f) ((List.range' 0 m).map fun k : Nat => .int (k : Int)) fun d hd => by
      obtain ⟨k, hk, rfl⟩ := List.mem_map.mp hd
      have hk := (List.mem_range'_1.mp hk).2
      have hc : sliceD (.list (vs.map .int)) (some (5 * (k : Int))) (some (5 * (k : Int) + 5)) = .ok (.list (((vs.drop (5 * k)).take 5).map .int)) := by
        have := cut_map vs (5 * k) (5 * k + 5) (by omega) (by omega)
        rw [show 5 * k + 5 - 5 * k = 5 by omega] at this
        exact congrArg (fun z => Res.ok (PyData.list z)) this
      obtain ⟨f, q1, q2, q3⟩ := fact_run S ws ((vs.drop (5 * k)).take 5) hS hS4 hw ht (by rw [List.length_take, List.length_drop]; omega)
      refine ⟨_, ftD f, rfl, rfl, ?_, f, rfl, q2, q3⟩
      dsimp! [eL, wipeE, optI, hc, q1]
  obtain ⟨fs, rfl, hf⟩ := unmap ys fun y hy' => (hy y hy').choose_spec.2
  refine ⟨fs, ?_, by rw [List.length_map, List.length_map, List.length_range'] at hl; exact hl, hf⟩
  rw [retL_ok (lComp_ok ((iF_ok (x := .int (m : Int)) rfl).trans hr) (by rw [List.length_map, List.length_range']; omega) e)]
  rfl
end
end Com2
set_option Elab.async false
set_option autoImplicit false
set_option linter.all false
set_option maxRecDepth 100000
set_option maxHeartbeats 4000000
namespace Com2
noncomputable section
open PySem PySem.Spec PyProof.Rows L2 Evl Pyr 
theorem prd_inj {p q : Nat × List Str} (h : prD p = prD q) : p = q := by
  unfold prD at h
  injection h with h
  injection h with h1 h
  injection h with h2 _
  injection h1 with h1
  injection h2 with h2
  exact Prod.ext (by omega) (strs_inj h2)
theorem key_inj {S : List Tb} {f g : Ft} (hf : ∃ t ∈ S, t.1 = f.1) (hg : ∃ t ∈ S, t.1 = g.1) (h : keyP S f = keyP S g) : f = g := by
  obtain ⟨k, hk⟩ := plc_in hf
  obtain ⟨j, hj⟩ := plc_in hg
  unfold keyP at h
  rw [hk, hj] at h
  obtain ⟨k1, k2⟩ := plc_some hk
  obtain ⟨j1, j2⟩ := plc_some hj
  have e1 : k = j := congrArg Prod.fst h
  have e2 : f.2 = g.2 := (Prod.mk.inj h).2
  subst e1
  exact Prod.ext (k2.symm.trans j2) e2
theorem foldl_sub {α : Type} [DecidableEq α] : ∀ (xs acc : List α), ∃ ys, xs.foldl dstep acc = acc ++ ys ∧ ys.Sublist xs
  | [], acc => ⟨[], by simp, List.Sublist.refl _⟩
  | x :: xs, acc => by
    rw [List.foldl_cons]
    by_cases h : x ∈ acc
    · rw [show dstep acc x = acc from if_pos h]
      obtain ⟨ys, e, s⟩ := foldl_sub xs acc
      exact ⟨ys, e, s.cons x⟩
    · rw [show dstep acc x = acc ++ [x] from if_neg h]
      obtain ⟨ys, e, s⟩ := foldl_sub xs (acc ++ [x])
      exact ⟨x :: ys, by rw [e, List.append_assoc]; rfl, s.cons₂ x⟩
theorem asc_sorted (S : List Tb) (fs : List Ft) : (ascF S fs).Pairwise fun f g => leF S f g = true := by
  obtain ⟨ys, e, s⟩ := foldl_sub (fs.mergeSort (leF S)) []
  have e : ascF S fs = ys := e
  rw [e]
  exact (List.pairwise_mergeSort (le := leF S) (fun a b c h1 h2 => dle_trans (prD (keyP S a)) (prD (keyP S b)) (prD (keyP S c)) h1 h2) (fun a b => dle_total (prD (keyP S a)) (prD (keyP S b))) fs).sublist s
theorem noB_pr (p : Nat × List Str) : noB (prD p) = true := by
  show (true && (noB (.tuple (p.2.map .str)) && true)) = true
  rw [noB_strs]
  rfl
theorem keyB_strs : ∀ r : List Str, keysB (r.map .str) = true
  | [] => rfl
  | x :: r => by
    show (true && keysB (r.map .str)) = true
    rw [keyB_strs r]
    rfl
theorem keyB_ft (f : Ft) : keysB [PyData.str f.1, .tuple (f.2.map .str)] = true := by
  show (true && (keysB (f.2.map .str) && true)) = true
  rw [keyB_strs]
  rfl
theorem dep_ft (f : Ft) : (ftD f).depth ≤ 8 := by
  show max 0 (max (PyData.depthAll (f.2.map .str) + 1) 0) + 1 ≤ 8
  rw [(flat_strs f.2).2]
  decide
end
end Com2
set_option Elab.async false
set_option autoImplicit false
set_option linter.all false
set_option maxRecDepth 100000
set_option maxHeartbeats 4000000
namespace Com2
noncomputable section
open PySem PySem.Spec PyProof.Rows L2 Evl Pyr 
end
end Com2
set_option Elab.async false
set_option autoImplicit false
set_option linter.all false
set_option maxRecDepth 100000
set_option maxHeartbeats 4000000
namespace Pyr
open PySem PySem.Spec PyProof.Rows L2 Evl
end Pyr
set_option Elab.async false
set_option autoImplicit false
set_option linter.all false
set_option maxRecDepth 100000
set_option maxHeartbeats 4000000
namespace Pyr
open PySem PySem.Spec PyProof.Rows L2 Evl
def entK (e : Int × Value) : Option Key := match e.2 with
  | .int i _ => some (.inl i)
  | .str x _ => some (.inr x)
  | _ => none
structure ScR (P : Program) (w : World) (h : Heap) (a : Addr) (L : List Key) (es : Array (Int × Value)) (ep : Nat) (t : SetTable) : Prop where
  here : ∃ o, h.get? a = some o ∧ o.ExactSet ∧ o.data = .set es ep t
  cont : es.toList.map entK = L.map some
  hsh : ∀ e ∈ es.toList, ∀ k, entK e = some k → e.1 = (mixKind P w).hash k
  once : L.Nodup
  fit : t.fits es.size = true
  few : L.length < 4000
  ris : Ris t.place.toList
  made : w.params.followText "set-order" = true ∨ t.led = true
structure ScS (P : Program) (w : World) (h : Heap) (a : Addr) (ks : List Key) : Prop where
  ex : ∃ L es ep t, ScR P w h a L es ep t ∧ ∀ k, k ∈ L ↔ k ∈ ks
section
variable {P : Program} {w : World} {h h' : Heap} {a : Addr} {ks L : List Key} {es : Array (Int × Value)} {ep : Nat} {t : SetTable}
theorem ScS.keep (x : ScS P w h a ks) (k : ∀ o, h.get? a = some o → h'.get? a = some o) : ScS P w h' a ks := by
  obtain ⟨L, es, ep, t, R, m⟩ := x.ex
  obtain ⟨o, ho, q⟩ := R.here
  exact ⟨L, es, ep, t, ⟨⟨o, k o ho, q⟩, R.cont, R.hsh, R.once, R.fit, R.few, R.ris, R.made⟩, m⟩
def scO (P : Program) (w : World) (a : Addr) (ks : List Key) : HO := .ext fun h => ScS P w h a ks
variable {A : Around} {E : Value → Shared → Prop} {s : Shared}
end
end Pyr
set_option Elab.async false
set_option autoImplicit false
set_option linter.all false
set_option maxRecDepth 100000
set_option maxHeartbeats 4000000
namespace Pyr
open PySem PySem.Spec PyProof.Rows L2 Evl
section
variable {P : Program} {w : World} {A : Around} {E : Value → Shared → Prop} {s : Shared} {a : Addr} {ks : List Key}
end
section
variable {X : Cx}
end
end Pyr
set_option Elab.async false
set_option autoImplicit false
set_option linter.all false
set_option maxRecDepth 100000
set_option maxHeartbeats 4000000
namespace Pyr
open PySem PySem.Spec PyProof.Rows L2 Evl
section
variable {elt t0 i0 t1 i1 : Expr} {c0 c1 : List Expr} {scope : Scope} {pos : Pos} {it acc : Value} {env : Env}
variable {prog : Program} {w : World} {A : Around} {R : Result → Shared → Prop} {s : Shared}
end
end Pyr
set_option Elab.async false
set_option autoImplicit false
set_option linter.all false
set_option maxRecDepth 100000
set_option maxHeartbeats 8000000
namespace Pyr
open PySem PySem.Spec PyProof.Rows L2 Evl
section
variable {X : Cx}
end
end Pyr
set_option Elab.async false
set_option autoImplicit false
set_option linter.all false
set_option maxRecDepth 100000
set_option maxHeartbeats 8000000
namespace Pyr
open PySem PySem.Spec PyProof.Rows L2 Evl
def scK : D → Option Key
  | .int i => some (.inl i)
  | .str x => some (.inr x)
  | _ => none
def keysL (ds : List D) : List Key := ds.filterMap scK
section
variable {X : Cx}
end
end Pyr
set_option Elab.async false
set_option autoImplicit false
set_option linter.all false
set_option maxRecDepth 100000
set_option maxHeartbeats 8000000
namespace Pyr
open PySem PySem.Spec PyProof.Rows L2 Evl
section
variable {TS : TabList} {X : Cx} {l : Addr} {G1 H1 : Hp}
structure Hold (TS : TabList) (X : Cx) (G1 H1 : Hp) (l : Addr) (pre : List D) (G H : Hp) : Prop where
  gr : Gr TS G1 H1 G H
  out : G l = none
  at' : H l = some (scO X.prog X.w l (keysL pre))
theorem Hold.grow {pre : List D} {G H G' H' : Hp} (x : Hold TS X G1 H1 l pre G H) (g : Gr TS G H G' H') : Hold TS X G1 H1 l pre G' H' := by
  refine ⟨x.gr.trans g, ?_, g.h.same l _ x.at' fun _ e => nomatch e⟩
  cases q : G' l with
  | none => rfl
  | some w =>
    rcases g.nw l (by rw [q]; simp) with c | c
    · exact absurd x.out c
    · rw [x.at'] at c
      cases c
end
section
variable {TS : TabList} {X : Cx} {tg iter tg1 iter1 elt : Expr} {fi fi1 : En → Res (List D)} {tt tt1 : En → Res Bool} {fe : En → Res D} {ifs ifs1 : List Expr} {pos : Pos} {t t1 : Tg} {scope : Scope} {own : List (Str × Nat)} {vs1 : List Nat}
end
end Pyr
set_option Elab.async false
set_option autoImplicit false
set_option linter.all false
set_option maxRecDepth 100000
set_option maxHeartbeats 8000000
namespace Pyr
open PySem PySem.Spec PyProof.Rows L2 Evl
section
variable {TS : TabList} {X : Cx} {tg iter tg1 iter1 elt : Expr} {fi fi1 : En → Res (List D)} {tt tt1 : En → Res Bool} {fe : En → Res D} {ifs ifs1 : List Expr} {pos : Pos} {t t1 : Tg} {scope : Scope} {own : List (Str × Nat)} {vs1 : List Nat}
end
end Pyr
set_option Elab.async false
set_option autoImplicit false
set_option linter.all false
set_option maxRecDepth 100000
set_option maxHeartbeats 8000000
namespace Pyr
open PySem PySem.Spec PyProof.Rows L2 Evl
def backL : D → Res D
  | .tuple ds => .ok (.tuple ds.reverse)
  | .list ds => .ok (.list ds.reverse)
  | _ => .bad
def eBack2 (fa : En → Res D) : En → Res D := fun ρ => (det (fa ρ)).bind backL
section
variable {TS : TabList} {X : Cx} {a : Expr} {fa : En → Res D} {pos p1 p2 p3 : Pos} {k : Nat}
theorem de_back2 (ha : DE TS X a fa) : DE TS X (.Subscript a (.Slice none none (some (.UnaryOp .USub (.Constant (.int 1) k p1) p2)) p3) pos) (eBack2 fa) := by
  refine ⟨?_⟩
  intro W ρ σ G H Q tk re ok post
  have post : PostG (RelE X.K) TS X W σ G H ((det (fa ρ)).bind backL) Q := post
  cases h : fa ρ with
  | alt f =>
    rw [h] at post
    exact post.elim
  | bad =>
    rw [h] at post
    exact post.elim
  | exc c fs =>
    rw [h] at post
    refine wpE_of (pe_backT (pe_wp X a)) ?_
    unfold tBackT
    refine ha W ρ σ G H _ tk re ok ?_
    rw [h]
    exact post
  | ok x =>
    rw [h] at post
    have post : PostG (RelE X.K) TS X W σ G H (backL x) Q := post
    cases x with
    | tuple ds =>
      refine wpE_of (pe_backT (pe_wp X a)) ?_
      unfold tBackT
      refine ha W ρ σ G H _ tk re ok ?_
      rw [h]
      intro v G1 H1 g1 r
      obtain ⟨b, xs, rfl, hb, rs⟩ := r.tup_inv
      refine ⟨b, xs, rfl, ex_t g1.ok.le hb, fun q hq => ?_⟩
      have g := Gr.new (o := .tup xs.reverse) g1.ok hq
      exact post _ _ _ (g1.trans g) (.tup (.inl (.inl upd_same)) ((rps_rev rs).mono g.g))
    | list ds =>
      refine wpE_of (pe_revL (pe_wp X a)) ?_
      unfold tRevL
      refine ha W ρ σ G H _ tk re ok ?_
      rw [h]
      intro v G1 H1 g1 r
      obtain ⟨b, xs, rfl, hb, rs⟩ := r.list_inv
      refine ⟨b, xs, rfl, ex_l g1.ok.le hb, fun q hq => ?_⟩
      have g := Gr.new (o := .lst xs.reverse) g1.ok hq
      exact post _ _ _ (g1.trans g) (.lst (.inl (.inl upd_same)) ((rps_rev rs).mono g.g))
    | _ => exact post.elim
end
end Pyr
set_option Elab.async false
set_option autoImplicit false
set_option linter.all false
set_option maxRecDepth 100000
set_option maxHeartbeats 8000000
namespace Pyr
open PySem PySem.Spec PyProof.Rows L2 Evl
theorem SI.changeS {TS : TabList} {K : PySem.W.Frag} {G_0 H_0 G H : Hp} {ρ : Frm} {σ : L2.St} {fp : Nat → List Addr} {i : Nat} {ds ds' : List Pyr.D} {a : Addr} {o' : HO} (s : SI TS K G_0 H_0 ρ σ G H fp) (hi : ρ[i]? = some (Sl.own (.set ds))) (ha : σ[i]? = some (some (.ref a))) (r : StAt TS K G (upd H a o') a ds') :
    SI TS K G_0 H_0 (ρ.set i (.own (.set ds'))) σ G (upd H a o') fp := by
  have hil : i < ρ.length := (List.getElem?_eq_some_iff.mp hi).1
  obtain ⟨v, hv, ro⟩ := s.own i _ hi
  rw [ha] at hv
  cases hv
  have hfp : fp i = [a] := by
    generalize hq : fp i = q at ro
    cases ro
    rfl
  have ham : a ∈ fp i := by rw [hfp]; simp
  obtain ⟨u, hu, hub⟩ := ro.there a ham
  obtain ⟨z1, z2⟩ := s.free i _ hi a ham
  have hs : σ.set i (some (.ref a)) = σ := by
    have hl : i < σ.length := by rw [← s.len]; exact hil
    have : σ[i] = some (.ref a) := by
      rw [List.getElem?_eq_getElem hl] at ha
      exact Option.some.inj ha
    rw [← this]
    exact List.set_getElem_self hl
  have keepO : ∀ b w, b ≠ a → H b = some w → upd H a o' b = some w := fun b w n h => by rw [upd_ne n]; exact h
  have gr : Gr TS G_0 H_0 G (upd H a o') := by
    refine ⟨s.gr.g, ⟨fun b w h n => keepO b w (ne_of_none h z2) (s.gr.h.same b w h n), fun b h => s.gr.h.old b (upd_none h), fun P t => (s.gr.h.tb P t).upd hu hub⟩, s.gr.nw, ⟨fun b w h => keepO b w (ne_of_none h z1) (s.gr.ok.le b w h), s.gr.ok.tb.upd hu hub, s.gr.ok.nt⟩⟩
  refine ⟨gr, by simpa using s.len, fun j d' h => ?_, fun j w h => ?_, fun j m w1 w2 h1 h2 hjm => ?_, fun j w h => ?_⟩
  · rcases set_at h with ⟨rfl, e, hl⟩ | ⟨ne, h⟩
    · cases e
    · exact s.val j d' h
  · rcases set_at h with ⟨rfl, e, hl⟩ | ⟨ne, h⟩
    · cases e
      exact ⟨_, ha, by rw [hfp]; exact .set r⟩
    · obtain ⟨v2, h1, h2⟩ := s.own j w h
      refine ⟨v2, h1, h2.keep (Ex.refl G) fun b hb w2 hw _ => keepO b w2 (fun e => ?_) hw⟩
      subst e
      exact s.apart i j _ _ hi h ne _ ham hb
  · have old : ∀ {k : Nat} {w : Own}, (ρ.set i (.own (.set ds')))[k]? = some (Sl.own w) → ∃ w', ρ[k]? = some (Sl.own w') := fun {k w} h => by
      rcases set_at h with ⟨rfl, e, _⟩ | ⟨_, h⟩
      · exact ⟨_, hi⟩
      · exact ⟨w, h⟩
    obtain ⟨w1', h1'⟩ := old h1
    obtain ⟨w2', h2'⟩ := old h2
    exact s.apart j m w1' w2' h1' h2' hjm
  · rcases set_at h with ⟨rfl, e, _⟩ | ⟨_, h⟩
    · exact s.free i _ hi
    · exact s.free j w h
section
variable {X : Cx} {pins : List (Addr × Obj)} {σ : L2.St} {H : Hp} {s : Shared}
theorem dkO_get {a : Addr} {ys : List (NestedKey × Addr × Addr)} (I : Inv X pins σ H s) (ha : H a = some (dkO X.prog X.w a ys)) : DkS X.prog X.w s.heap a ys := (I.hok a _ ha).1
theorem dkr_at (I : Inv X pins σ H s) : ∀ {ys : List (NestedKey × Addr × Addr)} {es : List Pyr.D}, DkR X.K H ys es → ∀ y ∈ ys, KAt s.heap y.1 y.2.1
  | _, _, .nil, y, h => nomatch h
  | _, _, .cons (kd := kd) r1 h1 h2 h3 r2 rs, y, h => by
    cases h with
    | head => exact ⟨h1 ▸ key_at I _ _ _ r1 h2 rfl, h1 ▸ Nat.le_trans (nk_depth kd) h3⟩
    | tail _ h => exact dkr_at I rs y h
end
def dGet : List Pyr.D → Pyr.D → Option Pyr.D
  | .tuple [a, b] :: es, k => if nk a = nk k then some b else dGet es k
  | _, _ => none
def dPut (es : List Pyr.D) (k v : Pyr.D) : List Pyr.D × Pyr.D := match dGet es k with
  | some b => (es, b)
  | none => (es ++ [.tuple [k, v]], v)
theorem dGet_of {K : PySem.W.Frag} {G : Hp} {k : Pyr.D} : ∀ {ys : List (NestedKey × Addr × Addr)} {es : List Pyr.D}, DkR K G ys es → match dGet es k with
    | some v => ∃ y ∈ ys, y.1 = nk k ∧ Rp K G (.ref y.2.2) v
    | none => ∀ y ∈ ys, y.1 ≠ nk k
  | _, _, .nil => fun y h => nomatch h
  | _, _, .cons (k := k0) (ka := ka) (b := b) (kd := kd) (vd := vd) (ys := ys) (es := es) r1 h1 h2 h3 r2 rs => by
    have ih := dGet_of (k := k) rs
    by_cases e : nk kd = nk k
    · rw [show dGet (.tuple [kd, vd] :: es) k = some vd from if_pos e]
      exact ⟨_, List.mem_cons_self, h1 ▸ e, r2⟩
    · rw [show dGet (.tuple [kd, vd] :: es) k = dGet es k from if_neg e]
      cases q : dGet es k with
      | some v =>
        rw [q] at ih
        obtain ⟨y, a, b⟩ := ih
        exact ⟨y, List.mem_cons_of_mem _ a, b⟩
      | none =>
        rw [q] at ih
        intro y hy
        cases hy with
        | head => exact fun z => e (h1.trans z)
        | tail _ hy => exact ih y hy
theorem dkr_app {K : PySem.W.Frag} {G : Hp} {k : NestedKey} {ka b : Addr} {kd vd : Pyr.D} (r1 : Rp K G (.ref ka) kd) (h1 : nk kd = k) (h2 : keyB kd = true) (h3 : kd.depth ≤ 8) (r2 : Rp K G (.ref b) vd) : ∀ {ys : List (NestedKey × Addr × Addr)} {es : List Pyr.D}, DkR K G ys es → DkR K G (ys ++ [(k, ka, b)]) (es ++ [.tuple [kd, vd]])
  | _, _, .nil => .cons r1 h1 h2 h3 r2 .nil
  | _, _, .cons a1 a2 a3 a4 a5 rs => .cons a1 a2 a3 a4 a5 (dkr_app r1 h1 h2 h3 r2 rs)
theorem dkr_len {K : PySem.W.Frag} {G : Hp} : ∀ {ys : List (NestedKey × Addr × Addr)} {es : List Pyr.D}, DkR K G ys es → ys.length = es.length
  | _, _, .nil => rfl
  | _, _, .cons _ _ _ _ _ rs => congrArg (· + 1) (dkr_len rs)
section
variable {X : Cx} {o e f : Expr} {td ty tx : TE} {apos cpos : Pos}
def tSdef (X : Cx) (td ty tx : TE) : TE := fun σ H Q => td σ H fun x H1 => ∃ a, x = .ref a ∧ (∃ ys, H1 a = some (dkO X.prog X.w a ys)) ∧ ty σ H1 fun y H2 => tx σ H2 fun z H3 => ∃ (ys : List (NestedKey × Addr × Addr)) (es : List Pyr.D) (kd : Pyr.D) (ka b : Addr), H3 a = some (dkO X.prog X.w a ys) ∧ y = .ref ka ∧ z = .ref b ∧ DkR X.K H3 ys es ∧ Rp X.K H3 (.ref ka) kd ∧ keyB kd = true ∧ kd.depth ≤ 8 ∧ ys.length ≤ 1000 ∧
  (∀ y' ∈ ys, y'.1 = nk kd → (ys.map (·.1)).Nodup → Q (.ref y'.2.2) H3) ∧ ((∀ y' ∈ ys, y'.1 ≠ nk kd) → Q (.ref b) (upd H3 a (dkO X.prog X.w a (ys ++ [(nk kd, ka, b)]))))
theorem pe_sdef (hu : X.A.units + 65 < cLine) (ho : PE X o td) (he : PE X e ty) (hf : PE X f tx) (m : M2 X o "setdefault" apos e f cpos) : PE X (.Call (.Attribute o "setdefault" apos) [e, f] [] cpos) (tSdef X td ty tx) := by
  refine ⟨fun pins s σ H Q I h => ?_⟩
  refine wpAny_Call_method m.base m.few m.line PySem.F.plainAttrs_dict PySem.F.slot_dict_setdefault PySem.F.type_dict_setdefault (thn (ho.run pins s σ H _ I h) fun u s1 ⟨x, H1, I1, rx, a, ex, ⟨ys0, d0⟩, q1⟩ => ?_)
  subst ex
  cases (show u = Value.ref a from rx)
  obtain ⟨o1, es1, ep1, z1, z2, _⟩ := (dkO_get I1 d0).ex
  refine ⟨⟨o1, z1, z2.1⟩, fun b e => by injection e with e; subst e; exact ⟨o1, z1, z2.2.1⟩, ?_⟩
  rw [m.trees]
  refine Calls.callWith_builtin rfl (Calls.evalArgs_plain (Calls.spliced_cons (thn (he.run pins s1 σ H1 _ I1 q1) fun iv s2 ⟨y, H2, I2, ry, q2⟩ =>
    Calls.spliced_cons (thn (hf.run pins s2 σ H2 _ I2 q2) fun fv s3 ⟨z, H3, I3, rz, ys, es, kd, ka, b, ea, ey, ez, R, rk, kb, dk, len, old, new⟩ => Calls.spliced_nil ?_))))
  subst ey ez
  cases (show iv = Value.ref ka from ry)
  cases (show fv = Value.ref b from rz)
  refine dk_default (k := nk kd) (dkO_get I3 ea) (dkr_at I3 R) ⟨key_at I3 _ _ _ rk kb rfl, Nat.le_trans (nk_depth kd) dk⟩ (by omega) len (fun y' hy e tk => ⟨.ref y'.2.2, H3, I3.tok _, rfl, old y' hy e (dkO_get I3 ea).nd⟩) fun none g tk D sb => ?_
  have there : ∃ v, g.get? a = some v := by
    obtain ⟨o2, _, _, h2, _⟩ := D.ex
    exact ⟨o2, h2⟩
  exact ⟨.ref b, _, I3.write (e := a) (t' := tk) (by rw [ea]; exact True.intro) (.inl rfl) (fun c v nb hv => (sb.2 c nb).trans hv) there (dkO_ok D), rfl, new none⟩
end
theorem same_fst {α β : Type} : ∀ {ys : List (α × β)}, (ys.map (·.1)).Nodup → ∀ {x y : α × β}, x ∈ ys → y ∈ ys → x.1 = y.1 → x = y
  | z :: ys, nd, x, y, hx, hy, e => by
    obtain ⟨n1, n2⟩ := List.nodup_cons.mp (show (z.1 :: ys.map (·.1)).Nodup from nd)
    cases hx with
    | head =>
      cases hy with
      | head => rfl
      | tail _ hy => exact absurd (List.mem_map.mpr ⟨y, hy, e.symm⟩) n1
    | tail _ hx =>
      cases hy with
      | head => exact absurd (List.mem_map.mpr ⟨x, hx, e⟩) n1
      | tail _ hy => exact same_fst n2 hx hy e
def sDict0 (i : Nat) : Frm → Res Fl := fun ρ => .ok (.next (ρ.set i (.own (.set [.none]))))
def dictF (i : Nat) (ρ : Frm) : Res (List Pyr.D) := match ρ[i]? with
  | some (.own (.set (.none :: es))) => .ok es
  | _ => .bad
def keyT (k : Pyr.D) : Bool := keyB k && tupB k && decide (k.depth ≤ 8)
def dkIx : List Pyr.D → Pyr.D → Res Pyr.D
  | .none :: es, k => if keyT k then (match dGet es k with
    | some v => .ok v
    | none => .bad) else .bad
  | _, _ => .bad
def eDk (i : Nat) (fk : En → Res Pyr.D) : En → Res Pyr.D := fun ρ => (setI i ρ).bind fun ds => (fk ρ).bind fun k => dkIx ds k
def sIfSd (i : Nat) (ft : En → Res Bool) (fk fv fc : En → Res Pyr.D) (F1 F2 : Frm → Res Fl) : Frm → Res Fl := fun ρ => (evT ft ρ).bind fun b => if b then (dictF i ρ).bind fun es => (evP fk ρ).bind fun k => (evP fv ρ).bind fun v =>
  if (keyT k && tupB v && decide (es.length ≤ 900)) = true then (evP fc (ρ.set i (.own (.set (.none :: (dPut es k v).1))))).bind fun c => (neD (dPut es k v).2 c).bind fun z => match z with
    | .bool b2 => if b2 then F1 (ρ.set i (.own (.set (.none :: (dPut es k v).1)))) else F2 (ρ.set i (.own (.set (.none :: (dPut es k v).1))))
    | _ => .bad
  else .bad
  else F2 ρ
section
variable {TS : TabList} {X : Cx} {a b : Expr} {fa fb : En → Res Pyr.D} {pos : Pos}
theorem ds_dict0 (i : Nat) {y : Str} {p' dpos : Pos} (hP : TS.P = X.prog) (hw : TS.w = X.w) (C : CtE X) (hi : X.N[i]? = some y := by rfl) (hx : Loc X.env.scope y := by first | exact Or.inl rfl | exact Or.inr rfl)
    (hs : swapsWith (.Dict [] [] dpos) (some (.Name y p')) pos.line X.env = pure false := by rfl) (hf : X.fn y = true ∨ X.env.scope.names.lookup y = some .local := by first | exact .inl rfl | exact .inr rfl) : DSt TS X (.Assign [.Name y p'] (.Dict [] [] dpos) pos) (sDict0 i) := by
  refine ⟨?_⟩
  intro W ρ σ G_0 H_0 G H fp D tk s p
  have new : PE X (.Dict [] [] dpos) (fun _ H Q => ∀ l, H l = none → Q (.ref l) (upd H l (dkO X.prog X.w l []))) := ⟨fun pins s σ H Q I h =>
    wpAny_Dict_empty ⟨.ref s.heap.objs.size, _, I.laid (a := s.heap.objs.size) (o := dkO X.prog X.w s.heap.objs.size []) (t' := s.toks) (fun _ _ q => Heap.get?_push_of_some _ q) (Nat.le_refl _) (dkO_ok (dk_bare (Heap.DictOfH.new s.heap) (beq_eq_false_iff_ne.mpr (Nat.ne_of_gt I.big)))), rfl, h _ (I.hok.fresh (Nat.le_refl _))⟩⟩
  refine wpSt_of (ps_set C.nd hi hx new hs hf) ?_
  intro l hl
  obtain ⟨fp', s'⟩ := s.storeS (i := i) (l := l) (ds := [.none]) hl (o := dkO X.prog X.w l []) ⟨.inr (.inr (.inl ⟨[], [], rfl, by rw [hP, hw]; exact upd_same, .nil⟩))⟩
  exact p _ G _ fp' (Ex.refl _) s'
theorem de_dk (i : Nat) {x : Str} {pos' : Pos} (hP : TS.P = X.prog) (hw : TS.w = X.w) (hu : X.A.units + 65 < cLine) (hb : DE TS X b fb) (hN : X.N[i]? = some x := by rfl) (hv : Vis X.env.scope x := by first | exact Or.inl rfl | exact Or.inr (Or.inl rfl) | exact Or.inr (Or.inr rfl)) (hd : (x == ("__debug__" : Str)) = false := by decide) (hcd : (x == ("__classdict__" : Str)) = false := by decide)
    (hs : PlainIx b := by exact fun _ _ => rfl) : DE TS X (.Subscript (.Name x pos') b pos) (eDk i fb) := by
  refine ⟨?_⟩
  intro W ρ σ G H Q tk re ok post
  have post : PostG (RelE X.K) TS X W σ G H ((setI i ρ).bind fun ds => (fb ρ).bind fun k => dkIx ds k) Q := post
  refine wpE_of (pe_ix (ixr_wp) (pe_var hN hv hd hcd) (pe_wp X b) hs) ?_
  unfold setI at post
  split at post
  · rename_i ds hds
    obtain ⟨l, h1, h2⟩ := re.st i ds hds
    refine ⟨_, h1, ?_⟩
    have post : PostG (RelE X.K) TS X W σ G H ((fb ρ).bind fun k => dkIx ds k) Q := post
    refine bindP back_E (fun Q' h => hb W ρ σ G H Q' tk re ok h) post fun u y G2 H2 _ g2 ry p2 => ?_
    have h3 := h2.mono g2.g fun u hu n => g2.h.at hu n
    intro value slice pins s σ' v' u' I rv ru hs'
    unfold dkIx at p2
    split at p2
    · rename_i es _post
      split at p2
      · rename_i kt
        unfold keyT at kt
        simp only [Bool.and_eq_true, decide_eq_true_eq] at kt
        obtain ⟨⟨kb, tb⟩, dp⟩ := kt
        rcases h3.ex with ⟨hne, z⟩ | ⟨ps, _, r3, _⟩ | ⟨ys, es', e3, z, R⟩ | ⟨e3, _⟩
        · obtain ⟨hD, _, _⟩ := (show _ ∧ _ ∧ _ from I.hok l _ z)
          have hD : SetD TS.P TS.w s.heap l (.none :: es) := hD
          generalize hz : (PyData.none :: es) = zs at hD
          cases hD with
          | txt xs hT =>
            cases xs with
            | nil => cases hz
            | cons x xs => rw [List.map_cons] at hz; injection hz with hz; cases hz
        · cases ps with
          | nil => cases r3
          | cons p ps =>
            cases r3 with
            | cons r _ => cases r
        · injection e3 with _ e3
          subst e3
          rw [hP, hw] at z
          cases (show v' = Value.ref l from rv)
          obtain ⟨ka, rfl⟩ : ∃ ka, u = V.ref ka := by
            cases (show Rp X.K G2 u y from ry) <;> first | exact ⟨_, rfl⟩ | cases tb
          cases (show u' = Value.ref ka from ru)
          have found := dGet_of (k := y) R
          cases q : dGet es y with
          | none =>
            rw [q] at p2
            exact p2.elim
          | some w =>
            rw [q] at p2 found
            obtain ⟨y', hy, ey, rv'⟩ := found
            obtain ⟨o1, _, _, z1, z2, _⟩ := (dkO_get I z).ex
            have ke := key_at I _ _ _ ((show Rp X.K G2 (V.ref ka) y from ry).mono g2.ok.le) kb rfl
            refine tail_any (s := s) ⟨o1, z1, z2.1⟩ slot_dict_getitem.lookup ?_ hs'
            exact dk_get (dkO_get I z) (dkr_at I (R.mono g2.ok.le)) ⟨ke, Nat.le_trans (nk_depth y) dp⟩ (by omega) hy ey fun tk' => ⟨.ref y'.2.2, H2, I.tok _, rfl, p2 (.ref y'.2.2) G2 H2 (Gr.refl g2.ok) rv'⟩
        · injection e3 with e3 _
          cases e3
      · exact p2.elim
    · exact p2.elim
  · exact post.elim
theorem ds_ifSd (i : Nat) {x : Str} {p1 apos cpos qpos bpos : Pos} {c kx vx cx : Expr} {ft : En → Res Bool} {fk fv fc : En → Res Pyr.D} {b1 b2 : List Stmt} {F1 F2 : Frm → Res Fl} (hP : TS.P = X.prog) (hw : TS.w = X.w) (C : CtE X) (hc : DT TS X c ft) (hk : DE TS X kx fk) (hvv : DE TS X vx fv) (hcc : DE TS X cx fc) (h1 : DSs TS X b1 F1) (h2 : DSs TS X b2 F2)
    (m : M2 X (.Name x p1) "setdefault" apos kx vx cpos) (hN : X.N[i]? = some x := by rfl) (hv : Vis X.env.scope x := by first | exact Or.inl rfl | exact Or.inr (Or.inl rfl) | exact Or.inr (Or.inr rfl)) (hd : (x == ("__debug__" : Str)) = false := by decide) (hcd : (x == ("__classdict__" : Str)) = false := by decide) :
    DSt TS X (.If (.BoolOp .And [c, .Compare (.Call (.Attribute (.Name x p1) "setdefault" apos) [kx, vx] [] cpos) [.NotEq] [cx] qpos] bpos) b1 b2 pos) (sIfSd i ft fk fv fc F1 F2) := by
  refine ⟨?_⟩
  intro W ρ σ G_0 H_0 G H fp D tk s p
  refine wpSt_of (ps_if (PW.pt (pw_and (pt_wp X c) (pw_and1 (pt_cmpR (opr_wp _) (pe_sdef C.un (pe_var hN hv hd hcd) (pe_wp X kx) (pe_wp X vx) m) (pe_wp X cx) (nomark _))))) (pss_wp X b1) (pss_wp X b2)) ?_
  refine evT_run hc tk s p fun b H1 g p => ?_
  have s1 := s.grow g
  cases b with
  | false => exact iteF (iteF (h2 W ρ σ G_0 H_0 G H1 fp D tk s1 p))
  | true =>
  refine iteT ?_
  have p : PostS TS X W G_0 H_0 G D ((dictF i ρ).bind fun es => (evP fk ρ).bind fun k => (evP fv ρ).bind fun v =>
    if (keyT k && tupB v && decide (es.length ≤ 900)) = true then (evP fc (ρ.set i (.own (.set (.none :: (dPut es k v).1))))).bind fun c => (neD (dPut es k v).2 c).bind fun z => match z with
      | .bool b2 => if b2 then F1 (ρ.set i (.own (.set (.none :: (dPut es k v).1)))) else F2 (ρ.set i (.own (.set (.none :: (dPut es k v).1))))
      | _ => .bad
    else .bad) := p
  unfold dictF at p
  split at p
  · rename_i es hi
    have p : PostS TS X W G_0 H_0 G D ((evP fk ρ).bind fun k => (evP fv ρ).bind fun v =>
      if (keyT k && tupB v && decide (es.length ≤ 900)) = true then (evP fc (ρ.set i (.own (.set (.none :: (dPut es k v).1))))).bind fun c => (neD (dPut es k v).2 c).bind fun z => match z with
        | .bool b2 => if b2 then F1 (ρ.set i (.own (.set (.none :: (dPut es k v).1)))) else F2 (ρ.set i (.own (.set (.none :: (dPut es k v).1))))
        | _ => .bad
      else .bad) := p
    obtain ⟨v0, hv0, ro⟩ := s1.own i _ hi
    obtain ⟨l, rfl, st⟩ : ∃ l, v0 = .ref l ∧ StAt TS X.K G H1 l (.none :: es) := by
      generalize fp i = q at ro
      cases ro with
      | set h => exact ⟨_, rfl, h⟩
    obtain ⟨ys, R, z1⟩ : ∃ ys, DkR X.K G ys es ∧ H1 l = some (dkO TS.P TS.w l ys) := by
      rcases st.ex with ⟨⟨_, hne⟩, _⟩ | ⟨ps, _, r3, _⟩ | ⟨ys, es', e3, z, R⟩ | ⟨e3, _⟩
      · exact absurd rfl hne.1
      · cases ps with
        | nil => cases r3
        | cons p ps =>
          cases r3 with
          | cons r _ => cases r
      · injection e3 with _ e3
        subst e3
        exact ⟨ys, R, z⟩
      · injection e3 with e3 _
        cases e3
    refine ⟨_, hv0, l, rfl, ⟨ys, by rw [← hP, ← hw]; exact z1⟩, ?_⟩
    refine evP_run hk tk s1 p fun yv kd G2 H2 g2 rk p => ?_
    have s2 := s1.grow g2
    refine evP_run hvv tk s2 (p.shift g2.g) fun zv vd G3 H3 g3 rv p => ?_
    have s3 := s2.grow g3
    have p := p.shift g3.g
    split at p
    · rename_i cond
      unfold keyT at cond
      simp only [Bool.and_eq_true, decide_eq_true_eq] at cond
      obtain ⟨⟨⟨⟨kb, tb⟩, dp⟩, tv⟩, len⟩ := cond
      obtain ⟨ka, rfl⟩ : ∃ ka, yv = V.ref ka := by cases rk <;> first | exact ⟨_, rfl⟩ | cases tb
      obtain ⟨b, rfl⟩ : ∃ b, zv = V.ref b := by cases rv <;> first | exact ⟨_, rfl⟩ | cases tv
      have R3 := R.mono (g2.g.trans g3.g)
      have z3 : H3 l = some (dkO TS.P TS.w l ys) := (g2.trans g3).h.at z1 rfl
      have rk3 := rk.mono g3.g
      have tail : ∀ (ρ' : Frm) (r : Pyr.D) (rr : V) (H' : Hp), SI TS X.K G_0 H_0 ρ' σ G3 H' fp → Rp X.K G3 rr r → PostS TS X W G_0 H_0 G3 D ((evP fc ρ').bind fun c => (neD r c).bind fun z => match z with
            | .bool b2 => if b2 then F1 ρ' else F2 ρ'
            | _ => .bad) → wpE X cx σ H' fun u H4 => wpO X (compareOp .NotEq) rr u H4 fun z H5 => ∃ k, z = .bl k ∧ (if k = true then wpSs X b1 D σ H5 else wpSs X b2 D σ H5) := by
        intro ρ' r rr H' s4 hr p
        refine evP_run hcc tk s4 p fun cv cd G4 H4 g4 rc p => ?_
        have s5 := s4.grow g4
        cases hn : neD r cd with
        | bad => rw [hn] at p; exact p.elim
        | alt f =>
          exfalso
          unfold neD at hn
          split at hn <;> cases hn
        | exc c' fs' =>
          exfalso
          unfold neD at hn
          split at hn <;> cases hn
        | ok zd =>
          rw [hn] at p
          cases zd with
          | bool k =>
            refine od_ne C W σ _ _ r cd G4 H4 _ s5.gr.ok (hr.mono g4.g) rc ?_
            rw [hn]
            intro v5 G5 H5 g5 r5
            cases r5
            have s6 := s5.grow g5
            have p : PostS TS X W G_0 H_0 G3 D (if k then F1 ρ' else F2 ρ') := p
            have p := p.shift (g4.g.trans g5.g)
            refine ⟨k, rfl, ?_⟩
            cases k with
            | true => exact iteT (h1 W ρ' σ G_0 H_0 G5 H5 fp D tk s6 p)
            | false => exact iteF (h2 W ρ' σ G_0 H_0 G5 H5 fp D tk s6 p)
          | _ => exact p.elim
      have found := dGet_of (k := kd) R3
      refine ⟨ys, es, kd, ka, b, by rw [← hP, ← hw]; exact z3, rfl, rfl, R3.mono s3.gr.ok.le, rk3.mono s3.gr.ok.le, kb, dp, by rw [dkr_len R]; omega, fun y' hy ey nd => ?_, fun none => ?_⟩
      · cases q : dGet es kd with
        | none =>
          rw [q] at found
          exact absurd ey (found y' hy)
        | some w =>
          rw [q] at found
          obtain ⟨y2, hy2, ey2, rw2⟩ := found
          have e : y2 = y' := same_fst nd hy2 hy (ey2.trans ey.symm)
          subst e
          have eput : dPut es kd vd = (es, w) := by unfold dPut; rw [q]
          rw [eput] at p
          have eρ : ρ.set i (.own (.set (.none :: es))) = ρ := by
            obtain ⟨hl, e⟩ := List.getElem?_eq_some_iff.mp hi
            rw [← e]
            exact List.set_getElem_self hl
          rw [eρ] at p
          exact tail ρ w _ H3 s3 rw2 p
      · cases q : dGet es kd with
        | some w =>
          rw [q] at found
          obtain ⟨y2, hy2, ey2, _⟩ := found
          exact absurd ey2 (none y2 hy2)
        | none =>
          have eput : dPut es kd vd = (es ++ [.tuple [kd, vd]], vd) := by unfold dPut; rw [q]
          rw [eput] at p
          have R4 := dkr_app rk3 rfl kb dp rv R3
          have s4 := s3.changeS (a := l) (o' := dkO X.prog X.w l (ys ++ [(nk kd, ka, b)])) (ds' := .none :: (es ++ [.tuple [kd, vd]])) hi hv0 ⟨.inr (.inr (.inl ⟨_, _, rfl, by rw [hP, hw]; exact upd_same, R4⟩))⟩
          exact tail _ vd _ _ s4 rv p
    · exact p.elim
  · exact p.elim
end
end Pyr
set_option Elab.async false
set_option autoImplicit false
set_option linter.all false
set_option maxRecDepth 100000
set_option maxHeartbeats 8000000
namespace Pyr
open PySem PySem.Spec PyProof.Rows L2 Evl
theorem RpOs.at' {K : PySem.W.Frag} {G H : Hp} : ∀ {l : List Addr} {us : List V} {dss : List (List D)} {j : Nat} {ds : List D}, RpOs K G H l us dss → dss[j]? = some ds → ∃ a vs, us[j]? = some (.ref a) ∧ a ∈ l ∧ H a = some (.lst vs) ∧ Rps K G vs ds ∧
      ∀ (ds' : List D) (vs' : List V), Rps K G vs' ds' → RpOs K G (upd H a (.lst vs')) l us (dss.set j ds')
  | _, _, _, _, _, .nil, h => by simp at h
  | _, _, _, 0, ds, .cons (a := a) (vs := vs) h r n q, e => by
    simp at e
    subst e
    refine ⟨a, vs, rfl, List.mem_cons_self, h, r, fun ds' vs' r' => .cons upd_same r' n (q.keep (Ex.refl G) fun b hb ws hw => ?_)⟩
    rw [upd_ne fun z => n (by rw [← z]; exact hb)]
    exact hw
  | _, _, _, j + 1, ds, .cons (a := b) h r n q, e => by
    obtain ⟨a, vs, h1, h2, h3, h4, h5⟩ := RpOs.at' (j := j) q (by simpa using e)
    refine ⟨a, vs, by simpa using h1, List.mem_cons_of_mem _ h2, h3, h4, fun ds' vs' r' => .cons ?_ r n (h5 ds' vs' r')⟩
    rw [upd_ne fun z => n (by rw [z]; exact h2)]
    exact h
structure DU (TS : TabList) (X : Cx) (e : Expr) (f : En → Res (List (List D))) : Prop where
  run : ∀ (W : WX) (ρ : En) (σ : L2.St) (G H : Hp) (Q : VK), Takes X W → RpE TS X.K G H ρ σ → Ok0 TS G H → PostG (RelU X.K) TS X W σ G H (f ρ) Q → wpE X e σ H Q
def u2 (fa fb : En → Res (List D)) : En → Res (List (List D)) := fun ρ => (fa ρ).bind fun x => (fb ρ).bind fun y => .ok [x, y]
section
variable {TS : TabList} {X : Cx} {W : WX} {a b e : Expr} {es : List Expr} {fa fb : En → Res (List D)} {fe : En → Res D} {fr : En → Res (List D)} {fu : En → Res (List (List D))} {pos p : Pos} {x : Str} {ps : List Str} {k k' : Nat} {m : List D → Res RV}
variable {G_0 H_0 G H G1 H1 : Hp} {ρ : Frm} {σ : L2.St} {fp : Nat → List Addr} {D : Ends}
end
theorem seqO {F1 F2 : Frm → Res Fl} {ρ ρ' : Frm} {r : Res RV} (h : F1 ρ = .ok (.next ρ')) (h2 : outR (F2 ρ') = r) : outR (sSeq F1 F2 ρ) = r := by
  rw [seq_ok h]
  exact h2
end Pyr
set_option Elab.async false
set_option autoImplicit false
set_option linter.all false
set_option maxRecDepth 100000
set_option maxHeartbeats 8000000
namespace Pyr
open PySem PySem.Spec PyProof.Rows L2 Evl
def sIns (i : Nat) (fj fe : En → Res D) : Frm → Res Fl := fun ρ => match ρ[i]? with
  | some (Sl.own (.lst ds)) => (evP fj ρ).bind fun j => (evP fe ρ).bind fun d => match j with
    | .int k => if 0 ≤ k ∧ k < 100000 then okL (ds.length + 1) (.ok (.next (ρ.set i (.own (.lst (ds.take k.toNat ++ [d] ++ ds.drop k.toNat)))))) else .bad
    | _ => .bad
  | _ => .bad
section
variable {TS : TabList} {X : Cx} {a e j : Expr} {fa fe fj : En → Res D}
theorem ds_ins (i : Nat) {x : Str} {pos pos' apos cpos : Pos} (hj : DE TS X j fj) (he : DE TS X e fe) (hN : X.N[i]? = some x := by rfl) (hv : Vis X.env.scope x := by first | exact Or.inl rfl | exact Or.inr (Or.inl rfl) | exact Or.inr (Or.inr rfl)) (hd : (x == ("__debug__" : Str)) = false := by decide) (hcd : (x == ("__classdict__" : Str)) = false := by decide)
    (hbase : attributeBase (.Name x pos') "insert" X.env (eval (.Name x pos') X.env) = eval (.Name x pos') X.env := by rfl)
    (hfew : ((backTo cpos (starEach [j, e] X.env)).all (fun x => !x.1) && (backToKw cpos (keywordEach [] X.env)).all (fun x => x.1.isSome)
      && decide ([j, e].length + ([] : List Keyword).length + (if ([] : List Keyword).isEmpty then 0 else 1) < 30)) = true := by rfl)
    (hline : (apos.endLine == cpos.line) = true := by rfl) (hs : starEach [j, e] X.env = (false, eval j X.env) :: starEach [e] X.env := by rfl) (hs2 : starEach [e] X.env = (false, eval e X.env) :: starEach [] X.env := by rfl) (hplain : (backTo cpos (starEach [e] X.env)).any (·.1) = false := by rfl)
    (hsw : swapsWith (.Call (.Attribute (.Name x pos') "insert" apos) [j, e] [] cpos) none pos.line X.env = pure false := by rfl) :
    DSt TS X (.Expr (.Call (.Attribute (.Name x pos') "insert" apos) [j, e] [] cpos) pos) (sIns i fj fe) := by
  refine ⟨?_⟩
  intro W ρ σ G_0 H_0 G H fp D tk s p
  refine wpSt_of (ps_expr (pe_bm PySem.F.plainAttrs_list PySem.F.slot_list_insert PySem.F.type_list_insert mt_insert (pe_var hN hv hd hcd) (pa_cons (pe_wp X j) (pa_cons (pe_wp X e) pa_nil hs2) hs) hbase hfew hline hs hplain) hsw) ?_
  unfold sIns at p
  split at p
  · rename_i ds hi
    obtain ⟨q, vs, h1, h2, r, z1, z2⟩ := own_at s hi
    refine ⟨_, h1, Or.inl ⟨rfl, vs, SqL.of h2⟩, ?_⟩
    refine evP_run hj tk s p fun w dj G1 H1 g rj p => ?_
    refine evP_run he tk (s.grow g) (p.shift g.g) fun v d G2 H2 g2 rv p => ?_
    cases rj with
    | int k =>
      have p : PostS TS X W G_0 H_0 G1 D (if 0 ≤ k ∧ k < 100000 then okL (ds.length + 1) (.ok (.next (ρ.set i (.own (.lst (ds.take k.toNat ++ [d] ++ ds.drop k.toNat)))))) else .bad) := p
      split at p
      · rename_i hk
        have hp : ds.length + 1 ≤ LIM ∧ PostS TS X W G_0 H_0 G1 D (.ok (.next (ρ.set i (.own (.lst (ds.take k.toNat ++ [d] ++ ds.drop k.toNat)))))) := by
          unfold okL at p
          split at p
          · exact ⟨by assumption, p⟩
          · exact p.elim
        have hq : H2 q = some (.lst vs) := g2.h.at (g.h.at h2 rfl) rfl
        refine ⟨q, vs, k, v, rfl, rfl, hq, ?_, hk.1, Int.lt_of_lt_of_le hk.2 (by decide), ?_⟩
        · rw [r.len]
          exact Nat.lt_of_lt_of_le hp.1 (by decide)
        · have r2 := (r.mono g.g).mono g2.g
          exact hp.2 σ G2 _ fp g2.g (((s.grow g).grow g2).change hi h1 (((r2.cut k.toNat).app (.cons rv .nil)).app (r2.off k.toNat)))
      · exact p.elim
    | _ => exact p.elim
  · exact p.elim
end
abbrev RelV (K : PySem.W.Frag) : Hp → Hp → Hp → V → List D → Prop := fun _ G' H' v ds => ∃ a vs, v = .ref a ∧ SqL K H' a vs ∧ Rps K G' vs ds
structure DV (TS : TabList) (X : Cx) (e : Expr) (f : En → Res (List D)) : Prop where
  run : ∀ (W : WX) (ρ : En) (σ : L2.St) (G H : Hp) (Q : VK), Takes X W → RpE TS X.K G H ρ σ → Ok0 TS G H → PostG (RelV X.K) TS X W σ G H (f ρ) Q → wpE X e σ H Q
section
variable {TS : TabList} {X : Cx} {a : Expr} {fa : En → Res (List D)} {fe : En → Res D} {pos p1 p2 p3 : Pos} {k : Nat}
end
end Pyr
set_option Elab.async false
set_option autoImplicit false
set_option linter.all false
set_option maxRecDepth 100000
set_option maxHeartbeats 8000000
namespace Pyr
open PySem PySem.Spec PyProof.Rows L2 Evl
def keyOf : D → Option Key
  | .int i => some (.inl i)
  | .str x => some (.inr x)
  | _ => none
theorem keyOf_keyD (k : Key) : keyOf (keyD k) = some k := by cases k <;> rfl
def dVal : List (D × D) → Key → Option D
  | [], _ => none
  | e :: es, k => if keyOf e.1 = some k then some e.2 else dVal es k
theorem RpKv.val {K : PySem.W.Frag} {G : Hp} (k : Key) : ∀ {kvs : List (Key × V)} {es : List (D × D)}, RpKv K G kvs es → (valV kvs k = none ∧ dVal es k = none) ∨ ∃ v d, valV kvs k = some v ∧ dVal es k = some d ∧ Rp K G v d
  | _, _, .nil => .inl ⟨rfl, rfl⟩
  | _, _, .cons (k := j) (v := v) (d := d) r rs => by
    by_cases e : j = k
    · exact .inr ⟨v, d, valV_pos e, by rw [dVal, keyOf_keyD, if_pos (by rw [e])], r⟩
    · have n : ¬ (keyOf (keyD j) = some k) := by rw [keyOf_keyD]; exact fun z => e (Option.some.inj z)
      rcases RpKv.val k rs with ⟨a, b⟩ | ⟨v', d', a, b, c⟩
      · exact .inl ⟨(valV_neg e).trans a, by rw [dVal, if_neg n]; exact b⟩
      · exact .inr ⟨v', d', (valV_neg e).trans a, by rw [dVal, if_neg n]; exact b, c⟩
theorem RpKv.len {K : PySem.W.Frag} {G : Hp} : ∀ {kvs : List (Key × V)} {es : List (D × D)}, RpKv K G kvs es → kvs.length = es.length
  | _, _, .nil => rfl
  | _, _, .cons _ rs => by rw [List.length_cons, List.length_cons, RpKv.len rs]
abbrev RelD (K : PySem.W.Frag) : Hp → Hp → Hp → V → List (D × D) → Prop := fun H0 G' H' v es => ∃ p kvs, v = .ref p ∧ H0 p = none ∧ G' p = none ∧ H' p = some (.dK kvs) ∧ RpKv K G' kvs es
structure DD (TS : TabList) (X : Cx) (e : Expr) (f : En → Res (List (D × D))) : Prop where
  run : ∀ (W : WX) (ρ : En) (σ : L2.St) (G H : Hp) (Q : VK), Takes X W → RpE TS X.K G H ρ σ → Ok0 TS G H → PostG (RelD X.K) TS X W σ G H (f ρ) Q → wpE X e σ H Q
theorem DD.de {TS : TabList} {X : Cx} {e : Expr} {f : En → Res (List (D × D))} (h : DD TS X e f) : DE TS X e (fun ρ => (f ρ).map .dict) := by
  refine ⟨?_⟩
  intro W ρ σ G H Q tk re ok post
  refine h.run W ρ σ G H Q tk re ok ?_
  have post : PostG (RelE X.K) TS X W σ G H ((f ρ).map .dict) Q := post
  refine mapP post ?_
  rintro v es G' H' g ⟨p, kvs, rfl, h0, g0, hp, r⟩ post
  obtain ⟨e1, e2⟩ := Gr.count g.ok g0 hp
  refine post _ _ H' ⟨g.g.trans e1, g.h, fun a q => ?_, e2⟩ (.dic upd_same (r.mono e1))
  by_cases z : a = p
  · subst z
    exact .inr h0
  · rw [upd_ne z] at q
    exact g.nw a q
section
variable {TS : TabList} {X : Cx} {tg iter kx vx : Expr} {fi : En → Res (List D)} {tt : En → Res Bool} {fk fv : En → Res D} {ifs : List Expr} {pos : Pos} {t : Tg} {scope : Scope} {own : List (Str × Nat)}
end
end Pyr
set_option Elab.async false
set_option autoImplicit false
set_option linter.all false
set_option maxRecDepth 100000
set_option maxHeartbeats 8000000
namespace Pyr
open PySem PySem.Spec PyProof.Rows L2 Evl
section
variable {TS : TabList} {X : Cx} {a b e : Expr} {fa fb : En → Res D} {pos : Pos}
end
section
variable {TS : TabList} {X : Cx} {W : WX} {e : Expr} {fu : En → Res (List (D × D))} {F : Frm → Res Fl} {rest : List Stmt} {pos : Pos}
variable {G_0 H_0 G H G1 H1 : Hp} {ρ : Frm} {σ : L2.St} {fp : Nat → List Addr} {D : Ends}
end
end Pyr
set_option Elab.async false
set_option autoImplicit false
set_option linter.all false
set_option maxRecDepth 100000
set_option maxHeartbeats 4000000
namespace Com3
noncomputable section
open PySem PySem.Spec PyProof.Rows L2 Evl Pyr Com2
def B__law_numbers_0 : Frm → Res Fl := (sSeq (sIf (tAndR (tE boolD (e2 geD (eVar 0) (e2 powD (eC (.int 10)) (eC (.int 18))))) (tE boolD (e2 gtD (eVar 3) (eC (.int 0))))) (sSeq (sApp 2 (e2 modD (eN (oneD int2D) (aC (eVar 3) a0)) (eC (.int 1000))))
  (sSet 3 (e2 fdivD (eVar 3) (eC (.int 1000))))) (sSeq (sSet 5 (e2 modD (eN (oneD int2D) (aC (e2 addD (e2 mul2D (eVar 0) (eC (.int 48271))) (e2 mul2D (e2 addD (eVar 4) (eC (.int 1))) (eC (.int 69621)))) a0)) (eC (.int 2147483647))))
  (sSeq (sSet 5 (e2 modD (eN (oneD int2D) (aC (e2 addD (e2 mul2D (eVar 5) (eVar 5)) (e2 mul2D (e2 addD (eVar 4) (eC (.int 7))) (eC (.int 40503)))) a0)) (eC (.int 1000003))))
  (sApp 2 (e2 modD (eN (oneD int2D) (aC (eVar 5) a0)) (eC (.int 1000)))))))
  (sKill [4, 5] sNext))
def T__law_numbers_3 : Frm → Res Fl := (sKill [3, 4, 5] (sRetO 2))
def T__law_numbers_2 : Frm → Res Fl := (sKill [4, 5] (sSeq (sForR (Tg.nm 4) (iF r1D (eVar 1)) B__law_numbers_0)
  T__law_numbers_3))
def T__law_numbers_1 : Frm → Res Fl := (sSeq (sSet 3 (eVar 0))
  T__law_numbers_2)
def F__law_numbers : Frm → Res Fl := (sSeq (sSetL 2 (lN a0))
  T__law_numbers_1)
noncomputable def m__law_numbers : List D → Res RV := hid (defM 2 6 F__law_numbers)
def T__law_word_4 : Frm → Res Fl := (sRet (e2 addD (e2 addD (eVar 4) (e2 atD (eVar 2) (eVar 3))) (eSlice (eC (.str "q7")) oNone (oSome (e2 modD (eN (oneD int2D) (aC (e2 fdivD (eVar 0) (eC (.int 4))) a0)) (eC (.int 3)))))))
def T__law_word_3 : Frm → Res Fl := (sSeq (sIf (tE boolD (e2 eqD (e2 modD (eN (oneD int2D) (aC (e2 fdivD (eVar 0) (eC (.int 12))) a0)) (eC (.int 5))) (eC (.int 1)))) (sSet 4 (e2 addD (e2 addD (eVar 4) (eVar 4)) (eVar 4))) sNext)
  T__law_word_4)
def T__law_word_2 : Frm → Res Fl := (sSeq (sSet 4 (eSlice (eC (.str "ab0")) oNone (oSome (e2 modD (eN (oneD int2D) (aC (eVar 0) a0)) (eC (.int 4))))))
  T__law_word_3)
def T__law_word_1 : Frm → Res Fl := (sSeq (sSet 3 (e2 modD (eN (oneD int2D) (aC (e2 addD (e2 mul2D (eVar 1) (eC (.int 5))) (eVar 0)) a0)) (eC (.int 36))))
  T__law_word_2)
def F__law_word : Frm → Res Fl := (sSeq (sSet 2 (eC (.str "abcdefghijklmnopqrstuvwxyz0123456789")))
  T__law_word_1)
noncomputable def m__law_word : List D → Res RV := hid (defM 2 5 F__law_word)
def B__law_schema_0 : Frm → Res Fl := (sSeq (sSet 4 (e2 addD (eC (.int 1)) (e2 modD (eN (oneD int2D) (aC (e2 atD (eVar 1) (e2 addD (eC (.int 2)) (eVar 3))) a0)) (eC (.int 4)))))
  (sSeq (sSet 5 (e2 modD (eN (oneD int2D) (aC (e2 atD (eVar 1) (e2 addD (eC (.int 6)) (eVar 3))) a0)) (e2 addD (eVar 4) (eC (.int 1)))))
  (sSeq (sIf (tE boolD (e2 eqD (eVar 5) (eC (.int 0)))) (sApp 2 (eN tupD (aC (eCall m__law_word (aC (e2 atD (eVar 1) (eC (.int 0))) (aC (eVar 3) a0))) (aC (eVar 4) (aC (eC .none) a0))))) (sApp 2 (eN tupD (aC (eCall m__law_word (aC (e2 atD (eVar 1) (eC (.int 0))) (aC (eVar 3) a0))) (aC (eVar 4) (aC (eVar 5) a0))))))
  (sKill [3, 4, 5] sNext))))
def T__law_schema_3 : Frm → Res Fl := (sKill [3, 4, 5] (sRetO 2))
def T__law_schema_2 : Frm → Res Fl := (sKill [0, 3, 4, 5] (sSeq (sForR (Tg.nm 3) (iF r1D (e2 addD (eC (.int 1)) (e2 modD (eN (oneD int2D) (aC (e2 atD (eVar 1) (eC (.int 1))) a0)) (eC (.int 4))))) B__law_schema_0)
  T__law_schema_3))
def T__law_schema_1 : Frm → Res Fl := (sSeq (sSetL 2 (lN a0))
  T__law_schema_2)
def F__law_schema : Frm → Res Fl := (sSeq (sSet 1 (eCall m__law_numbers (aC (eVar 0) (aC (eC (.int 10)) a0))))
  T__law_schema_1)
noncomputable def m__law_schema : List D → Res RV := hid (defM 1 6 F__law_schema)
theorem u__law_schema : m__law_schema = defM 1 6 F__law_schema := hid_eq _
def lf (q : Int) : List Nat := let x := ("ab0" : Str).cps.toList.take (q.fmod 4).toNat; if (q.fdiv 12).fmod 5 = 1 then x ++ x ++ x else x
def rt (q : Int) : List Nat := ("q7" : Str).cps.toList.take ((q.fdiv 4).fmod 3).toNat
structure ScOk (S : List Tb) : Prop where
  one : 1 ≤ S.length
  four : S.length ≤ 4
  wd : ∀ t ∈ S, Wd t.1
  nd : (S.map (·.1)).Nodup
  w : ∀ t ∈ S, 1 ≤ t.2.1 ∧ t.2.1 ≤ 4
  k : ∀ t ∈ S, ∀ j, t.2.2 = some j → 1 ≤ j ∧ j ≤ t.2.1
abbrev natD (n : Nat) : Pyr.D := .int (n : Int)
inductive Tm where
  | var (n : Nat)
  | word (w : Str)
  deriving DecidableEq
def TmOk : Tm → Prop
  | .var n => n < 8
  | .word w => Wd w
abbrev Am := Str × List Tm
def AmOk (a : Am) : Prop := Wd a.1 ∧ ∀ t ∈ a.2, TmOk t
def tvar : Tm → Option Nat
  | .var n => some n
  | .word _ => none
def varsR (as : List Am) : List Nat := as.flatMap fun a => a.2.filterMap tvar
def varsF (as : List Am) : List Nat := ddp (varsR as)
def AsOk (as : List Am) : Prop := ∀ a ∈ as, AmOk a ∧ a.2.length ≤ 4
structure AtOk (S : List Tb) (as : List Am) : Prop where
  one : 1 ≤ as.length
  three : as.length ≤ 3
  ok : AsOk as
  nd : (as.map (·.1)).Nodup
  tb : ∀ a ∈ as, ∃ t ∈ S, t.1 = a.1 ∧ a.2.length = t.2.1
end
end Com3
set_option Elab.async false
set_option autoImplicit false
set_option linter.all false
set_option maxRecDepth 100000
set_option maxHeartbeats 4000000
namespace Com3
noncomputable section
open PySem PySem.Spec PyProof.Rows L2 Evl Pyr Com2
structure HdOk (as : List Am) (h : List Tm) : Prop where
  ok : ∀ t ∈ h, TmOk t
  len : h.length ≤ 8
  all : ∀ n ∈ varsF as, Tm.var n ∈ h
  sub : ∀ n, Tm.var n ∈ h → n ∈ varsF as
theorem ins_len {α : Type} (h : List α) (k : Nat) (x : α) : (h.take k ++ [x] ++ h.drop k).length = h.length + 1 := by
  rw [List.length_append, List.length_append, List.length_take, List.length_drop, List.length_singleton]
  omega
end
end Com3
set_option Elab.async false
set_option autoImplicit false
set_option linter.all false
set_option maxRecDepth 100000
set_option maxHeartbeats 4000000
namespace Com3
noncomputable section
open PySem PySem.Spec PyProof.Rows L2 Evl Pyr Com2
end
end Com3
set_option Elab.async false
set_option autoImplicit false
set_option linter.all false
set_option maxRecDepth 100000
set_option maxHeartbeats 4000000
namespace Com3
noncomputable section
open PySem PySem.Spec PyProof.Rows L2 Evl Pyr Com2
theorem gxF_all {α : Type} {t : Tg} {tt : En → Res Bool} {fe : En → Res Pyr.D} {ρ : En} (e : α → Pyr.D) (p : α → Bool) : ∀ xs : List α, (∀ x ∈ xs, ∃ ρ1, tgE t (e x) ρ = .ok ρ1 ∧ tt ρ1 = .ok true ∧ fe ρ1 = .ok (.bool (p x))) → gxF true t tt fe ρ (xs.map e) = .ok (.bool (xs.all p))
  | [], _ => rfl
  | x :: xs, h => by
    obtain ⟨ρ1, h1, h2, h3⟩ := h x List.mem_cons_self
    show (tgE t (e x) ρ).bind _ = _
    rw [h1]
    show (noX (tt ρ1)).bind _ = _
    rw [h2]
    show (noX (fe ρ1)).bind _ = _
    rw [h3, List.all_cons]
    cases hp : p x with
    | true =>
      show gxF true t tt fe ρ (xs.map e) = _
      rw [gxF_all e p xs fun y hy => h y (List.mem_cons_of_mem _ hy), Bool.true_and]
    | false => rfl
theorem gx_run {isAll : Bool} {own : List Nat} {t : Tg} {fi : En → Res (List Pyr.D)} {tt : En → Res Bool} {fe : En → Res Pyr.D} {ρ : En} {ds : List Pyr.D} {r : Res Pyr.D} (h : fi ρ = .ok ds) (hc : gxF isAll t tt fe (wipeE ρ own) ds = r) : eGx isAll own t fi tt fe ρ = r := by
  unfold eGx
  rw [h]
  exact hc
def Plain (h : List Tm) (as : List Am) (cs : List Pyr.D) : Prop := (∀ n ∈ varsR as, Tm.var n ∈ h) ∧ cs.length = 0 ∧ (as.map (·.1)).Nodup
instance (h : List Tm) (as : List Am) (cs : List Pyr.D) : Decidable (Plain h as cs) := by unfold Plain; infer_instance
end
end Com3
set_option Elab.async false
set_option autoImplicit false
set_option linter.all false
set_option maxRecDepth 100000
set_option maxHeartbeats 4000000
namespace Com3
noncomputable section
open PySem PySem.Spec PyProof.Rows L2 Evl Pyr Com2
abbrev Ru := List Nat × List Nat
def en (X : List Nat) (r : Ru) : Bool := r.1.all fun n => decide (n ∈ X)
def fire (X : List Nat) (r : Ru) : List Nat := if en X r then X ++ r.2 else X
def pass (K : List Ru) (X : List Nat) : List Nat := K.foldl fire X
def Same (X Y : List Nat) : Prop := ∀ n, n ∈ X ↔ n ∈ Y
def Closed (K : List Ru) (X : List Nat) : Prop := ∀ r ∈ K, en X r = true → ∀ n ∈ r.2, n ∈ X
theorem en_iff {X : List Nat} {r : Ru} : en X r = true ↔ ∀ n ∈ r.1, n ∈ X := by
  unfold en
  rw [List.all_eq_true]
  exact ⟨fun h n hn => of_decide_eq_true (h n hn), fun h n hn => decide_eq_true (h n hn)⟩
theorem en_mono {X Y : List Nat} (h : ∀ n ∈ X, n ∈ Y) {r : Ru} (e : en X r = true) : en Y r = true := en_iff.mpr fun n hn => h n (en_iff.mp e n hn)
theorem fire_sup {X : List Nat} {r : Ru} : ∀ n ∈ X, n ∈ fire X r := fun n hn => by
  unfold fire
  split
  · exact List.mem_append_left _ hn
  · exact hn
theorem pass_sup : ∀ (K : List Ru) (X : List Nat), ∀ n ∈ X, n ∈ pass K X
  | [], _, _, hn => hn
  | r :: K, X, n, hn => pass_sup K (fire X r) n (fire_sup n hn)
theorem pass_fires : ∀ (K : List Ru) (X : List Nat) (r : Ru), r ∈ K → en X r = true → ∀ n ∈ r.2, n ∈ pass K X
  | q :: K, X, r, hr, e, n, hn => by
    rcases List.mem_cons.mp hr with rfl | hr
    · refine pass_sup K (fire X r) n ?_
      unfold fire
      rw [if_pos e]
      exact List.mem_append_right _ hn
    · exact pass_fires K (fire X q) r hr (en_mono fire_sup e) n hn
theorem Same.refl (X : List Nat) : Same X X := fun _ => Iff.rfl
theorem Same.symm {X Y : List Nat} (h : Same X Y) : Same Y X := fun n => (h n).symm
theorem Same.trans {X Y Z : List Nat} (h : Same X Y) (k : Same Y Z) : Same X Z := fun n => (h n).trans (k n)
theorem en_same {X Y : List Nat} (h : Same X Y) (r : Ru) : en X r = en Y r := by
  rw [Bool.eq_iff_iff]
  exact ⟨en_mono fun n hn => (h n).mp hn, en_mono fun n hn => (h n).mpr hn⟩
theorem Closed.same {K : List Ru} {X Y : List Nat} (h : Closed K X) (s : Same X Y) : Closed K Y := fun r hr e n hn => (s n).mp (h r hr (by rw [en_same s]; exact e) n hn)
def cnt (K : List Ru) (X : List Nat) : Nat := (K.filter (en X)).length
theorem filter_cnt {α : Type} {p q : α → Bool} : ∀ K : List α, (∀ r ∈ K, p r = true → q r = true) → (K.filter p).length ≤ (K.filter q).length ∧ ((K.filter p).length = (K.filter q).length → ∀ r ∈ K, q r = true → p r = true)
  | [], _ => ⟨Nat.le_refl _, fun _ r hr => nomatch hr⟩
  | r :: K, h => by
    obtain ⟨a, b⟩ := filter_cnt K fun x hx => h x (List.mem_cons_of_mem _ hx)
    have h0 := h r List.mem_cons_self
    rw [List.filter_cons, List.filter_cons]
    cases hp : p r with
    | true =>
      rw [h0 hp]
      simp only [if_true, List.length_cons]
      refine ⟨by omega, fun e x hx hq => ?_⟩
      rcases List.mem_cons.mp hx with rfl | hx
      · exact hp
      · exact b (by omega) x hx hq
    | false =>
      cases hq : q r with
      | true =>
        simp only [if_true, List.length_cons, Bool.false_eq_true, if_false]
        exact ⟨by omega, fun e => by omega⟩
      | false =>
        simp only [Bool.false_eq_true, if_false]
        refine ⟨a, fun e x hx hq' => ?_⟩
        rcases List.mem_cons.mp hx with rfl | hx
        · rw [hq] at hq'
          cases hq'
        · exact b e x hx hq'
theorem grow (K : List Ru) (X : List Nat) : Closed K (pass K X) ∨ cnt K X < cnt K (pass K X) := by
  obtain ⟨a, b⟩ := filter_cnt (p := en X) (q := en (pass K X)) K fun r _ e => en_mono (pass_sup K X) e
  by_cases e : (K.filter (en X)).length = (K.filter (en (pass K X))).length
  · exact .inl fun r hr er n hn => pass_fires K X r hr (b e r hr er) n hn
  · exact .inr (Nat.lt_of_le_of_ne a e)
end
end Com3
set_option Elab.async false
set_option autoImplicit false
set_option linter.all false
set_option maxRecDepth 100000
set_option maxHeartbeats 4000000
namespace Com3
noncomputable section
open PySem PySem.Spec PyProof.Rows L2 Evl Pyr Com2
end
end Com3
set_option Elab.async false
set_option autoImplicit false
set_option linter.all false
set_option maxRecDepth 100000
set_option maxHeartbeats 4000000
namespace Com3
noncomputable section
open PySem PySem.Spec PyProof.Rows L2 Evl Pyr Com2
abbrev tk (n : Nat) : Pyr.D × Pyr.D := (natD n, .bool true)
abbrev sk (t : Tb) : Pyr.D × Pyr.D := (.str t.1, kyD t.2.2)
end
end Com3
set_option Elab.async false
set_option autoImplicit false
set_option linter.all false
set_option maxRecDepth 100000
set_option maxHeartbeats 1000000
namespace Pyr
open PySem PySem.Spec PyProof.Rows L2 Evl
inductive IsP (K : PySem.W.Frag) (mg : Str → Option Value) (c x : Str) (b : Bool) : Prop
  | own (C D : Addr) : mg c = some (.ref C) → L2.ExcC K C → mg x = some (.ref D) → PySem.W.kitOne K (.ref C) (.ref D) = some b → IsP K mg c x b
  | ty (C : Addr) (T : String) : mg c = some (.ref C) → L2.ExcC K C → mg x = none → bootBuiltins x = some (.type T) → x ≠ "__name__" → PySem.W.kitOne K (.ref C) (.type T) = some b → IsP K mg c x b
abbrev IsTab := List (Str × Str × Bool)
def IsT (K : PySem.W.Frag) (mg : Str → Option Value) (tb : IsTab) : Prop := ∀ p ∈ tb, IsP K mg p.1 p.2.1 p.2.2
abbrev CtTab := List (Str × Bool)
def CtT (K : PySem.W.Frag) (mg : Str → Option Value) (x : Str) (ct : CtTab) : Prop := ∃ D, mg x = some (.ref D) ∧ ∀ p ∈ ct, ∃ C, mg p.1 = some (.ref C) ∧ PySem.W.exmOne K (.ref C) (.ref D) = some p.2
def isT (tb : IsTab) (x c : Str) : Option Bool := (tb.find? (fun p => p.1 == c && p.2.1 == x)).map (·.2.2)
def ctT (ct : CtTab) (c : Str) : Option Bool := (ct.find? fun p => p.1 == c).map (·.2)
structure QE (X : Cx) (a : Addr) (i : Nat) (e : Expr) (r : Option Bool) : Prop where
  run : ∀ (σ : L2.St) (H : Hp) (R : VK) (b : Bool), σ[i]? = some (some (.ref a)) → r = some b → R (.bl b) H → wpE X e σ H R
structure QT (X : Cx) (a : Addr) (i : Nat) (e : Expr) (r : Option Bool) : Prop where
  run : ∀ (σ : L2.St) (H : Hp) (R : Bool → Hp → Prop) (b : Bool), σ[i]? = some (some (.ref a)) → r = some b → R b H → wpT X e σ H R
structure QW (X : Cx) (a : Addr) (i : Nat) (e : Expr) (r : Option Bool) : Prop where
  run : ∀ (σ : L2.St) (H : Hp) (R : Bool → Hp → Prop) (b : Bool), σ[i]? = some (some (.ref a)) → r = some b → R b H → wpW X e σ H R
structure QA (X : Cx) (a : Addr) (i : Nat) (es : List Expr) (r : Option (List Bool)) : Prop where
  run : ∀ (σ : L2.St) (H : Hp) (R : List V → Hp → Prop) (bs : List Bool), σ[i]? = some (some (.ref a)) → r = some bs → R (bs.map V.bl) H → wpA X es σ H R
structure QSs (TS : TabList) (X : Cx) (a : Addr) (i : Nat) (body : List Stmt) (r : Res RV) : Prop where
  run : ∀ (W : WX) (σ : L2.St) (G_0 H_0 G H : Hp) (D : Ends), σ[i]? = some (some (.ref a)) → Gr TS G_0 H_0 G H → PostS TS X W G_0 H_0 G D (r.map Fl.ret) → wpSs X body D σ H
section
variable {TS : TabList} {X : Cx} {a : Addr} {i : Nat} {e e2 : Expr} {es rest : List Expr} {c : Str} {f g : Str → Option Bool} {b1 : List Stmt} {fr gr : Str → Res RV} {pos : Pos}
theorem PostS.tr {Y : Cx} {pn : List (Addr × Obj)} {xe : Value → Shared → Prop} {G_0 H_0 G : Hp} {D : Ends} {W : WX} {r : Res Fl} (p : PostS TS Y W G_0 H_0 G D r) : PostS TS (Y.tr pn xe) W G_0 H_0 G D r := by
  induction r with
  | ok fl =>
    cases fl with
    | ret rv => cases rv <;> exact p
    | _ => exact p
  | exc c fs => exact p
  | bad => exact p
  | alt f ih => exact fun i => ih i (p i)
theorem PostS.suite {Y : Cx} {u : Addr} {pn : List (Addr × Obj)} {G_0 H_0 G : Hp} {D : Ends} {W : WX} {r : Res Fl} (p : PostS TS Y W G_0 H_0 G D r) : PostS TS (Y.suite u pn) W G_0 H_0 G D r := by
  induction r with
  | ok fl =>
    cases fl with
    | ret rv => cases rv <;> exact p
    | _ => exact p
  | exc c fs => exact p
  | bad => exact p
  | alt f ih => exact fun i => ih i (p i)
end
theorem CtE.tr {X : Cx} (C : CtE X) (pn : List (Addr × Obj)) (xe : Value → Shared → Prop) : CtE (X.tr pn xe) := ⟨C.calm, C.nd, C.un⟩
abbrev ExQ (K : PySem.W.Frag) (c : Str) : Prop := ∃ C, PySem.W.nsIn K mainGlobals c = some (some (.ref C)) ∧ PySem.W.excIn K C [.type "ValueError", .type "Exception", .type "BaseException", .type "object"] "ValueError.__new__" = true ∧ PySem.W.keepIn K (.ref C) = true ∧ PySem.W.subIn K (.ref C) (.type "BaseException") = some true ∧ PySem.W.typeIn K (.ref C) = some (.type "type")
abbrev IsO (K : PySem.W.Frag) (c x : Str) (b : Bool) : Prop := ∃ C D, PySem.W.nsIn K mainGlobals c = some (some (.ref C)) ∧ L2.ExcC K C ∧ PySem.W.nsIn K mainGlobals x = some (some (.ref D)) ∧ PySem.W.subIn K (.ref C) (.ref D) = some b ∧ PySem.W.hasDictIn K D = true ∧ PySem.W.typeIn K (.ref D) = some (.type "type") ∧ PySem.W.subIn K (.ref C) (.ref C) = some true
abbrev IsB (K : PySem.W.Frag) (c x : Str) (T : String) (b : Bool) : Prop := ∃ C, PySem.W.nsIn K mainGlobals c = some (some (.ref C)) ∧ L2.ExcC K C ∧ PySem.W.nsIn K mainGlobals x = some none ∧ PySem.W.subIn K (.ref C) (.type T) = some b
abbrev CtQ (K : PySem.W.Frag) (x c : Str) (b : Bool) : Prop := ∃ C D, PySem.W.nsIn K mainGlobals c = some (some (.ref C)) ∧ PySem.W.nsIn K mainGlobals x = some (some (.ref D)) ∧ PySem.W.subIn K (.ref D) (.type "BaseException") = some true ∧ PySem.W.hasDictIn K D = true ∧ PySem.W.typeIn K (.ref D) = some (.type "type") ∧ PySem.W.subIn K (.ref C) (.ref D) = some b
section
variable {K : PySem.W.Frag} {mg : Str → Option Value} {h : Heap} {c x : Str} {b : Bool}
theorem kit_own {C D : Addr} (h1 : PySem.W.subIn K (.ref C) (.ref D) = some b) (hd : PySem.W.hasDictIn K D = true) (ht : PySem.W.typeIn K (.ref D) = some (.type "type")) (h0 : PySem.W.subIn K (.ref C) (.ref C) = some true) : PySem.W.kitOne K (.ref C) (.ref D) = some b := by
  unfold PySem.W.kitOne
  split
  · rename_i e
    have e2 := Value.ref.inj (beq_iff_eq.mp e)
    subst e2
    exact h0.symm.trans h1
  · obtain ⟨cd, hc, _⟩ := PySem.W.any_some hd
    have e2 : ((PySem.W.clsIn K D).isSome && PySem.W.typeIn K (.ref D) == some (.type "type")) = true := by rw [hc, ht] <;> rfl
    show (if ((PySem.W.clsIn K D).isSome && PySem.W.typeIn K (.ref D) == some (.type "type")) = true then PySem.W.subIn K (.ref C) (.ref D) else none) = some b
    rw [if_pos e2]
    exact h1
theorem kit_bi {C : Addr} {T : String} (hm : PySem.W.kitMeta T = true) (h1 : PySem.W.subIn K (.ref C) (.type T) = some b) : PySem.W.kitOne K (.ref C) (.type T) = some b := by
  unfold PySem.W.kitOne
  rw [if_neg (show ¬ (Value.ref C == Value.type T) = true from by simp)]
  show (if PySem.W.kitMeta T = true then PySem.W.subIn K (.ref C) (.type T) else none) = some b
  rw [if_pos hm]
  exact h1
theorem exC_of (X : K.In h) (G : h.Ns mainGlobals mg) (q : ExQ K c) : ∃ C, ExcC K mg c C := by
  obtain ⟨C, h0, h1, h2, h3, h4⟩ := q
  exact ⟨C, h1, PySem.W.mg_of X G h0, h2, h3, h4⟩
theorem isO_of (X : K.In h) (G : h.Ns mainGlobals mg) (q : IsO K c x b) : IsP K mg c x b := by
  obtain ⟨C, D, h0, h1, h2, h3, h4, h5, h6⟩ := q
  exact .own C D (PySem.W.mg_of X G h0) h1 (PySem.W.mg_of X G h2) (kit_own h3 h4 h5 h6)
theorem isB_of {T : String} (X : K.In h) (G : h.Ns mainGlobals mg) (q : IsB K c x T b) (hb : bootBuiltins x = some (.type T)) (hm : PySem.W.kitMeta T = true) (hx : x ≠ "__name__") : IsP K mg c x b := by
  obtain ⟨C, h0, h1, h2, h3⟩ := q
  exact .ty C T (PySem.W.mg_of X G h0) h1 (PySem.W.mg_none_of X G h2) hb hx (kit_bi hm h3)
theorem isT_nil : IsT K mg [] := fun p hp => nomatch hp
theorem isT_cons {tb : IsTab} (h : IsP K mg c x b) (t : IsT K mg tb) : IsT K mg ((c, x, b) :: tb) := fun p hp => by
  rcases List.mem_cons.mp hp with rfl | hp
  · exact h
  · exact t p hp
theorem ctT_one (X : K.In h) (G : h.Ns mainGlobals mg) (q : CtQ K x c b) : CtT K mg x [(c, b)] := by
  obtain ⟨C, D, h0, h1, h2, h3, h4, h5⟩ := q
  exact ⟨D, PySem.W.mg_of X G h1, fun p hp => by
    rw [List.mem_singleton.mp hp]
    exact ⟨C, PySem.W.mg_of X G h0, PySem.W.exm_ref h2 h3 h4 h5⟩⟩
theorem ctT_cons {ct : CtTab} (X : K.In h) (G : h.Ns mainGlobals mg) (q : CtQ K x c b) (t : CtT K mg x ct) : CtT K mg x ((c, b) :: ct) := by
  obtain ⟨D', hD, r⟩ := t
  obtain ⟨C, D, h0, h1, h2, h3, h4, h5⟩ := q
  have e := hD.symm.trans (PySem.W.mg_of X G h1)
  cases e
  refine ⟨_, hD, fun p hp => ?_⟩
  rcases List.mem_cons.mp hp with rfl | hp
  · exact ⟨C, PySem.W.mg_of X G h0, PySem.W.exm_ref h2 h3 h4 h5⟩
  · exact r p hp
end
end Pyr
set_option Elab.async false
set_option autoImplicit false
set_option linter.all false
set_option maxRecDepth 100000
set_option maxHeartbeats 4000000
namespace Pyr
open PySem PySem.Spec PyProof.Rows L2 Evl
section
variable {TS : TabList} {X : Cx} {a b e : Expr} {fa fb : En → Res D} {pos : Pos}
end
section
variable {TS : TabList} {X : Cx} {W : WX} {e j tg : Expr} {fe fj : En → Res D} {pos : Pos} {t : Tr}
end
end Pyr
set_option Elab.async false
set_option autoImplicit false
set_option linter.all false
set_option maxRecDepth 100000
set_option maxHeartbeats 8000000
namespace Pyr
open PySem PySem.Spec PyProof.Rows L2 Evl
section
variable {prog : Program} {w : World} {A : Around} {R : Result → Shared → Prop} {I : Addr} {fp wr : List Addr} {G : Array GenState → Array GenState → Prop} {n : Nat} {Pi : Nat → Value → Prop} {St : Nat → Shared → Prop}
end
section
variable {prog : Program} {w : World} {A : Around} {E : Value → Shared → Prop} {s : Shared}
end
section
variable {X : Cx}
end
section
variable {TS : TabList} {X : Cx} {a : Expr} {fa : En → Res D}
end
end Pyr
set_option Elab.async false
set_option autoImplicit false
set_option linter.all false
set_option maxRecDepth 100000
set_option maxHeartbeats 4000000
namespace Pyr
open PySem PySem.Spec PyProof.Rows L2 Evl
section
variable {TS : TabList} {X : Cx} {a b : Expr} {fr : En → Res (List D)} {pos p : Pos} {x y : Str} {ps : List Str} {k k' : Nat} {m : List D → Res RV}
end
end Pyr
set_option Elab.async false
set_option autoImplicit false
set_option linter.all false
set_option maxRecDepth 100000
set_option maxHeartbeats 8000000
namespace Pyr
open PySem PySem.Spec PyProof.Rows L2 Evl
abbrev BR := (Shared → Prop) → Shared → Prop
def StOk (Y : Cx) (e : Expr) (k : Nat) (acc : Value) : Prop :=
  ∀ (it : Value) (R : Result → Shared → Prop) (s : Shared), codeAny (model Y.prog Y.w) Y.A (.compLoop e k it acc Y.env) R s →
    wpAny (model Y.prog Y.w) Y.A (pyIter it) (fun it' u => codeAny (model Y.prog Y.w) Y.A (.compLoop e k it' acc Y.env) R u) (notedBy (model Y.prog Y.w) Y.A Y.env fun x u => R (.error x) u) s →
    codeAny (model Y.prog Y.w) Y.A (.compStart e k it acc Y.env) R s
abbrev TB := L2.St → Hp → (Hp → Prop) → Prop
structure PB (Y : Cx) (B : BR) (vs : List Nat) (t : TB) : Prop where
  run : ∀ (pins : List (Addr × Obj)) (u : Shared) (σ : L2.St) (H : Hp) (Nx : Hp → Prop) (P : Shared → Prop), Inv Y pins σ H u → t σ H Nx → (∀ u' H', Inv Y pins (wipe σ vs) H' u' → Nx H' → P u') → B P u
section
variable {X : Cx} {elt tg iter : Expr} {ifs : List Expr} {gs : List Comprehension} {scope : Scope} {own : List (Str × Nat)} {pos : Pos} {wi : TI} {g : TG} {tt : TT} {body : Addr → TB} {B : Cx → Addr → BR} {vs1 : List Nat}
end
end Pyr
set_option Elab.async false
set_option autoImplicit false
set_option linter.all false
set_option maxRecDepth 100000
set_option maxHeartbeats 8000000
namespace Pyr
open PySem PySem.Spec PyProof.Rows L2 Evl
abbrev CF := En → Res (List D)
section
variable {TS : TabList} {X : Cx}
structure HoldL (TS : TabList) (K : PySem.W.Frag) (G1 H1 : Hp) (l : Addr) (pre : List D) (G H : Hp) : Prop where
  gr : Gr TS G1 H1 G H
  out : G l = none
  at' : ∃ vs, H l = some (.lst vs) ∧ Rps K G vs pre
theorem HoldL.grow {K : PySem.W.Frag} {G1 H1 G H G' H' : Hp} {l : Addr} {pre : List D} (x : HoldL TS K G1 H1 l pre G H) (g : Gr TS G H G' H') : HoldL TS K G1 H1 l pre G' H' := by
  obtain ⟨vs, h1, h2⟩ := x.at'
  refine ⟨x.gr.trans g, ?_, vs, g.h.same l _ h1 (fun _ e => by cases e), h2.mono g.g⟩
  cases q : G' l with
  | none => rfl
  | some w =>
    rcases g.nw l (by rw [q]; simp) with c | c
    · exact absurd x.out c
    · rw [h1] at c
      cases c
def FrOk (TS : TabList) (K : PySem.W.Frag) (G1 H1 G : Hp) (ρ : En) (σ : L2.St) : Prop := ∀ {G' H' : Hp}, Gr TS G1 H1 G' H' → Ex G G' → RpE TS K G' H' ρ σ
structure DB (TS : TabList) (X : Cx) (body : Addr → TB) (fb : CF) : Prop where
  run : ∀ (l : Addr) (G1 H1 G H : Hp) (ρ : En) (σ : L2.St) (pre ys : List D) (Nx : Hp → Prop), H1 l = none → HoldL TS X.K G1 H1 l pre G H → FrOk TS X.K G1 H1 G ρ σ → fb ρ = .ok ys → pre.length + ys.length ≤ 100000 →
    (∀ G' H', HoldL TS X.K G1 H1 l (pre ++ ys) G' H' → Ex G G' → Nx H') → body l σ H Nx
variable {tg iter elt : Expr} {fi : CF} {tt : En → Res Bool} {fb : CF} {fe : En → Res D} {ifs : List Expr} {t : Tg} {scope : Scope} {own : List (Str × Nat)} {vs vs1 : List Nat} {body : Addr → TB}
variable {gs : List Comprehension} {pos : Pos} {B : Cx → Addr → BR}
end
end Pyr
set_option Elab.async false
set_option autoImplicit false
set_option linter.all false
set_option maxRecDepth 100000
set_option maxHeartbeats 8000000
namespace Pyr
open PySem PySem.Spec PyProof.Rows L2 Evl
section
variable {TS : TabList} {X : Cx} {elt tg iter tg1 iter1 tg2 iter2 : Expr} {ifs ifs1 ifs2 : List Expr} {scope : Scope} {pos : Pos} {own : List (Str × Nat)} {vs1 vs2 : List Nat} {t t1 t2 : Tg} {fi fi1 fi2 : CF} {tt tt1 tt2 : En → Res Bool} {fe : En → Res D}
end
end Pyr
set_option Elab.async false
set_option autoImplicit false
set_option linter.all false
set_option maxRecDepth 100000
set_option maxHeartbeats 2000000
namespace Pyr
open PySem PySem.Spec PyProof.Rows L2 Evl
def spS (TS : TabList) (K : PySem.W.Frag) (mg : Str → Option Value) (m : List D → Res RV) : Sp := fun vs H Q E => ∃ G a us ds, vs = .ref a :: us ∧ StrAt K G a ∧ Rps K G us ds ∧ Ok0 TS G H ∧ PostF TS K mg G H (m ds) Q E
structure KnownS (TS : TabList) (P : Program) (w : World) (K : PySem.W.Frag) (mg : Str → Option Value) (base : Heap) (k : Nat) (x : Str) (ps : List Str) (m : List D → Res RV) : Prop where
  ex : ∃ f fd, FnOk P w K mg base (L2N.CX P w) k f fd ps (spS TS K mg m) ∧ mg x = some (.ref f) ∧ PySem.W.keepIn K (.ref f) = true ∧ Binds K fd ps []
def smB : D → Bool
  | .dict [(.bool true, .list [.bool false])] => true
  | _ => false
def smAt (i : Nat) (ρ : En) : Bool := match ρ[i]? with
  | some (some d) => smB d
  | _ => false
def eCallS (i : Nat) (m : List D → Res RV) (fr : En → Res (List D)) : En → Res D := fun ρ => if smAt i ρ then (fr ρ).bind fun ds => (m ds).map RV.d else .bad
section
variable {TS : TabList} {X : Cx} {W : WX} {es : List Expr} {fr : En → Res (List D)} {pos p py : Pos} {x y : Str} {ps : List Str} {k k' : Nat} {m : List D → Res RV} {σ : L2.St} {G H : Hp}
end
def frmS (n : Nat) (ds : List D) : Frm := Sl.own .strm :: frm0 (n - 1) ds
def defS (np n : Nat) (F : Frm → Res Fl) : List D → Res RV := fun ds => if ds.length + 1 = np then outR (F (frmS n ds)) else .bad
end Pyr
set_option Elab.async false
set_option autoImplicit false
set_option linter.all false
set_option maxRecDepth 100000
set_option maxHeartbeats 2000000
namespace Pyr
open PySem PySem.Spec PyProof.Rows L2 Evl Classical
def Jd (a sc : Addr) (σ : L2.St) (H : Hp) : Prop := σ[0]? = some (some (.ref a)) ∧ ∃ vs, H a = some (.lst vs) ∧ vs[0]? = some (V.ref sc)
theorem Jd.grow {TS : TabList} {G H G1 H1 : Hp} {a sc : Addr} {σ : L2.St} (j : Jd a sc σ H) (g : Gr TS G H G1 H1) : Jd a sc σ H1 :=
  let ⟨h0, vs, h1, h2⟩ := j
  ⟨h0, vs, g.h.at h1 rfl, h2⟩
def NxI (TS : TabList) (K : PySem.W.Frag) (G_0 H_0 G : Hp) (a sc : Addr) (ρ' : Frm) (N : L2.St → Hp → Prop) : Prop := ∀ (σ : L2.St) (G' H' : Hp) (fp : Nat → List Addr), Ex G G' → SI TS K G_0 H_0 ρ' σ G' H' fp → Jd a sc σ H' → N σ H'
structure DStI (TS : TabList) (X : Cx) (st : Stmt) (F : Frm → Res Fl) : Prop where
  run : ∀ (W : WX) (ρ ρ' : Frm) (σ : L2.St) (G_0 H_0 G H : Hp) (fp : Nat → List Addr) (D : Ends) (a sc : Addr), Takes X W → SI TS X.K G_0 H_0 ρ σ G H fp → Jd a sc σ H → F ρ = .ok (.next ρ') → NxI TS X.K G_0 H_0 G a sc ρ' D.nx → wpSt X st D σ H
structure DSsI (TS : TabList) (X : Cx) (st : List Stmt) (F : Frm → Res Fl) : Prop where
  run : ∀ (W : WX) (ρ ρ' : Frm) (σ : L2.St) (G_0 H_0 G H : Hp) (fp : Nat → List Addr) (D : Ends) (a sc : Addr), Takes X W → SI TS X.K G_0 H_0 ρ σ G H fp → Jd a sc σ H → F ρ = .ok (.next ρ') → NxI TS X.K G_0 H_0 G a sc ρ' D.nx → wpSs X st D σ H
structure DSsT (TS : TabList) (X : Cx) (st : List Stmt) (F : Frm → Res (Frm × D)) : Prop where
  run : ∀ (W : WX) (ρ ρ' : Frm) (d : Pyr.D) (σ : L2.St) (G_0 H_0 G H : Hp) (fp : Nat → List Addr) (D : Ends) (a sc : Addr), Takes X W → SI TS X.K G_0 H_0 ρ σ G H fp → Jd a sc σ H → F ρ = .ok (ρ', d) →
    (∀ (σ' : L2.St) (G' H' : Hp) (fp' : Nat → List Addr) (v : V), Ex G G' → SI TS X.K G_0 H_0 ρ' σ' G' H' fp' → Jd a sc σ' H' → Rp X.K G' v d → D.rt v H') → wpSs X st D σ H
theorem NxI.shift {TS : TabList} {K : PySem.W.Frag} {G_0 H_0 G G1 : Hp} {a sc : Addr} {ρ' : Frm} {N : L2.St → Hp → Prop} (n : NxI TS K G_0 H_0 G a sc ρ' N) (e : Ex G G1) : NxI TS K G_0 H_0 G1 a sc ρ' N := fun σ G' H' fp e' => n σ G' H' fp (e.trans e')
section
variable {TS : TabList} {X : Cx} {W : WX} {e c : Expr} {fe fj : En → Res Pyr.D} {ft : En → Res Bool} {F1 F2 : Frm → Res Fl} {FT : Frm → Res (Frm × Pyr.D)} {st : Stmt} {rest b1 b2 : List Stmt} {pos : Pos}
variable {G_0 H_0 G H G1 H1 : Hp} {ρ : Frm} {σ : L2.St} {fp : Nat → List Addr}
end
end Pyr
set_option Elab.async false
set_option autoImplicit false
set_option linter.all false
set_option maxRecDepth 100000
set_option maxHeartbeats 2000000
namespace Pyr
open PySem PySem.Spec PyProof.Rows L2 Evl
def drawM : List D → Res RV
  | [.int n] => if 0 < n ∧ n < 1073741824 then .alt fun i => .ok (.val (.int ((i : Int) % n))) else .bad
  | _ => .bad
section
variable {TS : TabList} {K : PySem.W.Frag} {G H : Hp} {a sc : Addr} {ns : List Int} {p c n : Int} {N : List Str}
end
end Pyr
set_option Elab.async false
set_option autoImplicit false
set_option linter.all false
set_option maxRecDepth 100000
set_option maxHeartbeats 2000000
namespace Pyr
open PySem PySem.Spec PyProof.Rows L2 Evl
section
variable {TS : TabList} {X : Cx} {W : WX} {e : Expr} {fl : En → Res (List Pyr.D)} {pos : Pos}
variable {G_0 H_0 G H G1 H1 : Hp} {ρ : Frm} {σ : L2.St} {fp : Nat → List Addr}
end
theorem Res.All.bind {α β : Type} {r : Res α} {k : α → Res β} {R : α → Prop} {Q : β → Prop} (h : r.All R) (h2 : ∀ a, R a → (k a).All Q) : (r.bind k).All Q := by
  induction r with
  | ok a => exact h2 a h
  | alt f ih => exact fun i => ih i (h i)
  | _ => exact h.elim
theorem Res.All.imp {α : Type} {r : Res α} {R Q : α → Prop} (h : r.All R) (h2 : ∀ a, R a → Q a) : r.All Q := by
  induction r with
  | ok a => exact h2 a h
  | alt f ih => exact fun i => ih i (h i)
  | _ => exact h.elim
theorem Res.All.map {α β : Type} {r : Res α} {f : α → β} {R : α → Prop} {Q : β → Prop} (h : r.All R) (h2 : ∀ a, R a → Q (f a)) : (r.map f).All Q := by
  induction r with
  | ok a => exact h2 a h
  | alt f ih => exact fun i => ih i (h i)
  | _ => exact h.elim
end Pyr
set_option Elab.async false
set_option autoImplicit false
set_option linter.all false
set_option maxRecDepth 100000
set_option maxHeartbeats 4000000
namespace Com5
noncomputable section
open PySem PySem.Spec PyProof.Rows L2 Evl Pyr Com2
theorem KnownS.cast {TS : TabList} {P : Program} {w : World} {K : PySem.W.Frag} {mg : Str → Option Value} {base : Heap} {k : Nat} {x : Str} {ps : List Str} {m m' : List Pyr.D → Res RV} (e : m = m') (h : KnownS TS P w K mg base k x ps m') : KnownS TS P w K mg base k x ps m := e ▸ h
end
end Com5
set_option Elab.async false
set_option autoImplicit false
set_option linter.all false
set_option maxRecDepth 100000
set_option maxHeartbeats 1000000
namespace Pyr
open PySem PySem.Spec PyProof.Rows L2 Evl
theorem bare_all {α : Type} {r : Res α} {R : α → Prop} (h : r.All R) : (bare r).All R := by
  induction r with
  | alt f ih => exact fun i => ih i (h i)
  | exc c fs => exact h.elim
  | _ => exact h
theorem outR_all {r : Res Fl} {R : RV → Prop} (h : r.All fun fl => (∃ ρ, fl = .next ρ ∧ R (.val .none)) ∨ ∃ v, fl = .ret v ∧ R v) : (outR r).All R := by
  induction r with
  | alt f ih => exact fun i => ih i (h i)
  | ok fl =>
    rcases (show _ ∨ _ from h) with ⟨ρ, rfl, h1⟩ | ⟨v, rfl, h1⟩
    · exact h1
    · exact h1
  | _ => exact h.elim
end Pyr
set_option Elab.async false
set_option autoImplicit false
set_option linter.all false
set_option maxRecDepth 100000
set_option maxHeartbeats 4000000
namespace Com5
noncomputable section
open PySem PySem.Spec PyProof.Rows L2 Evl Pyr Com2
noncomputable def m__law_draw : List D → Res RV := hid drawM
def T__law_word_3 : Frm → Res Fl := (sRet (eJoin (eC (.str "")) (eL (lComp [3] (Tg.nm 3) (iF r1D (eVar 2)) tYesR (e2 atD (eVar 1) (eCallS 0 m__law_draw (aC (eC (.int 36)) a0)))))))
def T__law_word_2 : Frm → Res Fl := (sSeq (sIf (tE boolD (e2 eqD (eCallS 0 m__law_draw (aC (eC (.int 6)) a0)) (eC (.int 0)))) (sSet 2 (e2 addD (eC (.int 1)) (eCallS 0 m__law_draw (aC (eC (.int 12)) a0)))) sNext)
  T__law_word_3)
def T__law_word_1 : Frm → Res Fl := (sSeq (sSet 2 (e2 addD (eC (.int 1)) (eCallS 0 m__law_draw (aC (eC (.int 2)) a0))))
  T__law_word_2)
def F__law_word : Frm → Res Fl := (sSeq (sSet 1 (eC (.str "abcdefghijklmnopqrstuvwxyz0123456789")))
  T__law_word_1)
noncomputable def m__law_word : List D → Res RV := hid (defS 1 4 F__law_word)
def B__law_words_0 : Frm → Res Fl := (sSeq (sSet 8 (eCallS 0 m__law_word a0))
  (sSeq (sIf (tE truD (eVar 5)) (sSet 8 (e2 addD (e2 addD (eSlice (eVar 3) oNone (oSome (eVar 4))) (e2 atD (eVar 2) (eCallS 0 m__law_draw (aC (eC (.int 36)) a0)))) (eSlice (eVar 3) (oSome (eVar 4)) oNone))) sNext)
  (sSeq (sIf (tE boolD (e2 notInD (eVar 8) (eVar 6))) (sApp 6 (eVar 8)) sNext)
  (sKill [7, 8] sNext))))
def T__law_words_6 : Frm → Res Fl := (sKill [7, 8] (sRetO 6))
def T__law_words_5 : Frm → Res Fl := (sKill [7, 8] (sSeq (sForR (Tg.nm 7) (iF r1D (eVar 1)) B__law_words_0)
  T__law_words_6))
def T__law_words_4 : Frm → Res Fl := (sSeq (sSetL 6 (lN a0))
  T__law_words_5)
def T__law_words_3 : Frm → Res Fl := (sSeq (sSet 5 (e2 eqD (eCallS 0 m__law_draw (aC (eC (.int 2)) a0)) (eC (.int 0))))
  T__law_words_4)
def T__law_words_2 : Frm → Res Fl := (sSeq (sSet 4 (eCallS 0 m__law_draw (aC (e2 addD (eN (oneD lenD) (aC (eVar 3) a0)) (eC (.int 1))) a0)))
  T__law_words_3)
def T__law_words_1 : Frm → Res Fl := (sSeq (sSet 3 (eSlice (eCallS 0 m__law_word a0) (oSome (eC (.int 1))) oNone))
  T__law_words_2)
def F__law_words : Frm → Res Fl := (sSeq (sSet 2 (eC (.str "abcdefghijklmnopqrstuvwxyz0123456789")))
  T__law_words_1)
noncomputable def m__law_words : List D → Res RV := hid (defS 2 9 F__law_words)
end
end Com5
set_option Elab.async false
set_option autoImplicit false
set_option linter.all false
set_option maxRecDepth 100000
set_option maxHeartbeats 1000000
namespace Pyr
open PySem PySem.Spec PyProof.Rows L2 Evl
structure Al {α : Type} (r : Res α) (R : α → Prop) : Prop where
  h : r.All R
section
variable {α β : Type} {r : Res α} {R : α → Prop}
theorem Al.bind {k : α → Res β} {Q : β → Prop} (h : Al r R) (h2 : ∀ a, R a → Al (k a) Q) : Al (r.bind k) Q := ⟨Res.All.bind h.h fun a ha => (h2 a ha).h⟩
theorem Al.imp {Q : α → Prop} (h : Al r R) (h2 : ∀ a, R a → Q a) : Al r Q := ⟨Res.All.imp h.h h2⟩
theorem Al.map {f : α → β} {Q : β → Prop} (h : Al r R) (h2 : ∀ a, R a → Q (f a)) : Al (r.map f) Q := ⟨Res.All.map h.h h2⟩
theorem Al.ok {a : α} (h : R a) : Al (.ok a) R := ⟨h⟩
theorem Al.eq {a : α} (e : r = .ok a) (h : R a) : Al r R := ⟨by rw [e]; exact h⟩
theorem Al.bare (h : Al r R) : Al (bare r) R := ⟨bare_all h.h⟩
end
theorem Al.outR {r : Res Fl} {R : RV → Prop} (h : Al r fun fl => (∃ ρ, fl = .next ρ ∧ R (.val .none)) ∨ ∃ v, fl = .ret v ∧ R v) : Al (outR r) R := ⟨outR_all h.h⟩
section
variable {fe : En → Res D} {fl : En → Res (List D)} {ft : En → Res Bool} {ρ : Frm} {F1 F2 : Frm → Res Fl}
end
end Pyr
set_option Elab.async false
set_option autoImplicit false
set_option linter.all false
set_option maxRecDepth 100000
set_option maxHeartbeats 4000000
namespace Com5
noncomputable section
open PySem PySem.Spec PyProof.Rows L2 Evl Pyr Com2
end
end Com5
set_option Elab.async false
set_option autoImplicit false
set_option linter.all false
set_option maxRecDepth 100000
set_option maxHeartbeats 4000000
namespace Com5
noncomputable section
open PySem PySem.Spec PyProof.Rows L2 Evl Pyr Com2
end
end Com5
set_option Elab.async false
set_option autoImplicit false
set_option linter.all false
set_option maxRecDepth 100000
set_option maxHeartbeats 4000000
namespace Com5
noncomputable section
open PySem PySem.Spec PyProof.Rows L2 Evl Pyr Com2
inductive Itm where
  | inl (x : Str)
  | inr (f : Ft)
instance itDec : DecidableEq Itm := fun _ _ => Classical.propDecidable _
end
end Com5
set_option Elab.async false
set_option autoImplicit false
set_option linter.all false
set_option maxRecDepth 100000
set_option maxHeartbeats 4000000
namespace Com5
noncomputable section
open PySem PySem.Spec PyProof.Rows L2 Evl Pyr Com2
structure StOk (n : Nat) (P : Itm → Prop) (acc : List Itm) : Prop where
  nd : acc.Nodup
  ok : ∀ x ∈ acc, P x
  len : acc.length ≤ n
end
end Com5
set_option Elab.async false
set_option autoImplicit false
set_option linter.all false
set_option maxRecDepth 100000
set_option maxHeartbeats 4000000
namespace Com5
noncomputable section
open PySem PySem.Spec PyProof.Rows L2 Evl Pyr Com2
end
end Com5
set_option Elab.async false
set_option autoImplicit false
set_option linter.all false
set_option maxRecDepth 100000
set_option maxHeartbeats 1000000
namespace PySem.SeqAt
open AutoSeq1 (wpAny_loadPart')
open MeetsSeq MeetsSeq2 MeetsSeq3 SeqRoads2
section
variable {prog : Program} {w : World}
end
end PySem.SeqAt
namespace Pyr
open PySem PySem.Spec PyProof.Rows L2 Evl
section
variable {TS : TabList} {X : Cx} {o e : Expr} {fo fe : En → Res D} {apos cpos : Pos}
end
end Pyr
set_option Elab.async false
set_option autoImplicit false
set_option linter.all false
set_option maxRecDepth 100000
set_option maxHeartbeats 1000000
namespace Pyr
open PySem PySem.Spec PyProof.Rows L2 Evl
section
variable {TS : TabList} {K : PySem.W.Frag} {G H G1 H1 : Hp}
end
section
variable {TS : TabList} {X : Cx} {W : WX} {e : Expr} {fl : En → Res (List Pyr.D)} {pos : Pos}
variable {G_0 H_0 G H G1 H1 : Hp} {ρ : Frm} {σ : L2.St} {fp : Nat → List Addr} {D : Ends}
end
end Pyr
set_option Elab.async false
set_option autoImplicit false
set_option linter.all false
set_option maxRecDepth 100000
set_option maxHeartbeats 4000000
namespace Com5
noncomputable section
open PySem PySem.Spec PyProof.Rows L2 Evl Pyr Com2
theorem boolsD_map : ∀ bs : List Bool, boolsD (bs.map .bool) = some bs
  | [] => rfl
  | b :: bs => by
    show (boolsD (bs.map .bool)).map (b :: ·) = _
    rw [boolsD_map bs]
    rfl
theorem allD_bools (bs : List Bool) : allD (.list (bs.map .bool)) = .ok (.bool (bs.all id)) := by
  show (match boolsD (bs.map .bool) with
    | some bs => Res.ok (PyData.bool (bs.all id))
    | none => .bad) = _
  rw [boolsD_map]
end
end Com5
set_option Elab.async false
set_option autoImplicit false
set_option linter.all false
set_option maxRecDepth 100000
set_option maxHeartbeats 1000000
namespace Pyr
open PySem PySem.Spec PyProof.Rows L2 Evl
section
variable {TS : TabList} {X : Cx} {a : Expr} {fa : En → Res D} {pos : Pos} {es : List Expr} {fr : En → Res (List D)}
end
inductive PairV (K : PySem.W.Frag) (H : Hp) : List V → List (Key × V) → Prop
  | nil : PairV K H [] []
  | cons {b : Addr} {k : Key} {v : V} {xs : List V} {kvs : List (Key × V)} : SqT K H b [kV k, v] → PairV K H xs kvs → PairV K H (.ref b :: xs) ((k, v) :: kvs)
theorem PairV.len {K : PySem.W.Frag} {H : Hp} : ∀ {xs : List V} {kvs : List (Key × V)}, PairV K H xs kvs → xs.length = kvs.length
  | _, _, .nil => rfl
  | _, _, .cons _ r => congrArg (· + 1) (PairV.len r)
theorem relV_key {k : Key} {u : Value} (h : L2.RelV (kV k) u) : keyIs k u = true := by
  cases k with
  | inl i =>
    obtain ⟨t, rfl⟩ := h
    exact keyIs_int i t
  | inr x =>
    obtain ⟨t, rfl⟩ := h
    exact keyIs_str x t
theorem PairV.laid {X : Cx} {pins : List (Addr × Obj)} {σ : L2.St} {H : Hp} {s : Shared} (I : Inv X pins σ H s) : ∀ {xs : List V} {kvs : List (Key × V)} {its : List Value}, PairV X.K H xs kvs → Vals xs its →
    ∃ (bs : List Addr) (ps : List (Value × Value)) (rs : List (Key × Value)), its = bs.map Value.ref ∧ ps.length = bs.length ∧ rs.length = ps.length ∧ L2.KV kvs rs ∧
      ∀ (j : Nat) (k v : Value), ps[j]? = some (k, v) → (∃ b, bs[j]? = some b ∧ s.heap.IsTuple b #[k, v]) ∧ ∃ kk, rs[j]? = some (kk, v) ∧ keyIs kk k = true
  | _, _, _, .nil, r => by
    cases r
    exact ⟨[], [], [], rfl, rfl, rfl, .nil, fun j k v h => by simp at h⟩
  | _, _, _, .cons (b := b) (k := kk) (v := v) h hs, r => by
    cases r with
    | cons r1 r2 =>
      obtain ⟨bs, ps, rs, e1, e2, e3, e4, e5⟩ := PairV.laid I hs r2
      rename_i u us
      have r1 : u = Value.ref b := r1
      subst r1
      obtain ⟨its, r', pl, _⟩ := I.tuple h
      obtain ⟨k1, v1, rfl, q1, q3⟩ : ∃ u1 u2, its = [u1, u2] ∧ L2.RelV (kV kk) u1 ∧ L2.RelV v u2 := by
        cases r' with
        | cons q1 q2 =>
          cases q2 with
          | cons q3 q4 =>
            cases q4
            exact ⟨_, _, rfl, q1, q3⟩
      refine ⟨b :: bs, (k1, v1) :: ps, (kk, v1) :: rs, by rw [e1]; rfl, congrArg (· + 1) e2, congrArg (· + 1) e3, .cons ⟨rfl, q3⟩ e4, fun j k w hj => ?_⟩
      cases j with
      | zero =>
        have hj : (k1, v1) = (k, w) := by simpa using hj
        cases hj
        exact ⟨⟨b, rfl, pl⟩, kk, rfl, relV_key q1⟩
      | succ j => exact e5 j k w (by simpa using hj)
section
variable {TS : TabList} {X : Cx} {a : Expr} {fa : En → Res D} {pos : Pos}
end
end Pyr
set_option Elab.async false
set_option autoImplicit false
set_option linter.all false
set_option maxRecDepth 100000
set_option maxHeartbeats 4000000
namespace Com5
noncomputable section
open PySem PySem.Spec PyProof.Rows L2 Evl Pyr Com2 Com3
def B__law_schema_0 : Frm → Res Fl := (sSeq (sSet 5 (e2 addD (eC (.int 1)) (eCallS 0 m__law_draw (aC (eC (.int 3)) a0))))
  (sSeq (sIf (tE boolD (e2 eqD (eCallS 0 m__law_draw (aC (eC (.int 6)) a0)) (eC (.int 0)))) (sSet 5 (eC (.int 4))) sNext)
  (sSeq (sSet 6 (eC .none))
  (sSeq (sIf (tE boolD (e2 eqD (eCallS 0 m__law_draw (aC (eC (.int 3)) a0)) (eC (.int 0)))) (sSet 6 (e2 addD (eC (.int 1)) (eCallS 0 m__law_draw (aC (eVar 5) a0)))) sNext)
  (sSeq (sApp 3 (eN tupD (aC (eVar 4) (aC (eVar 5) (aC (eVar 6) a0)))))
  (sKill [4, 5, 6] sNext))))))
def T__law_schema_4 : Frm → Res Fl := (sKill [4, 5, 6] (sRetO 3))
def T__law_schema_3 : Frm → Res Fl := (sKill [1, 4, 5, 6] (sSeq (sFor (Tg.nm 4) (iF walkD (eCallS 0 m__law_words (aC (eVar 2) a0))) B__law_schema_0)
  T__law_schema_4))
def T__law_schema_2 : Frm → Res Fl := (sSeq (sSetL 3 (lN a0))
  T__law_schema_3)
def T__law_schema_1 : Frm → Res Fl := (sSeq (sIf (tE boolD (e2 eqD (eCallS 0 m__law_draw (aC (eC (.int 8)) a0)) (eC (.int 0)))) (sSet 2 (eC (.int 4))) sNext)
  T__law_schema_2)
def F__law_schema : Frm → Res Fl := (sSeq (sSet 2 (e2 addD (eC (.int 1)) (eCallS 0 m__law_draw (aC (eVar 1) a0))))
  T__law_schema_1)
noncomputable def m__law_schema : List D → Res RV := hid (defS 2 7 F__law_schema)
theorem u__law_schema : m__law_schema = defS 2 7 F__law_schema := hid_eq _
def TmIn (ws : List Str) (ns : List Nat) (t : Com3.Tm) : Prop := (∀ n, t = .var n → n ∈ ns) ∧ ∀ w, t = .word w → w ∈ ws
theorem TmIn.ok {ws : List Str} {ns : List Nat} {t : Com3.Tm} (h : TmIn ws ns t) (hw : ∀ w ∈ ws, Wd w) (hn : ∀ n ∈ ns, n < 8) : TmOk t := by
  cases t with
  | var n => exact hn n (h.1 n rfl)
  | word w => exact hw w (h.2 w rfl)
def TbS (t : Tb) : Prop := Wd t.1 ∧ 1 ≤ t.2.1 ∧ t.2.1 ≤ 4 ∧ ∀ k, t.2.2 = some k → 1 ≤ k ∧ k ≤ t.2.1
def SOk (n : Nat) (S : List Tb) : Prop := 1 ≤ S.length ∧ S.length ≤ n ∧ (S.map (·.1)).Nodup ∧ ∀ t ∈ S, TbS t
abbrev Cnd := Com3.Tm × Bool × Com3.Tm
def CnIn (ws : List Str) (ns : List Nat) (c : Cnd) : Prop := TmIn ws ns c.1 ∧ TmIn ws ns c.2.2
structure RlOk (ws : List Str) (S : List Tb) (w : Nat) (hd : List Com3.Tm) (as : List Com3.Am) (cs : List Cnd) : Prop where
  one : 1 ≤ as.length
  three : as.length ≤ 3
  ok : Com3.AsOk as
  tb : ∀ a ∈ as, (∃ t ∈ S, t.1 = a.1 ∧ a.2.length = t.2.1) ∧ ∀ v, Com3.Tm.word v ∈ a.2 → v ∈ ws
  wd : hd.length = w
  hd : ∀ t ∈ hd, TmIn ws (varsR as) t
  few : cs.length ≤ 3
  cs : ∀ c ∈ cs, CnIn ws (varsR as) c
end
end Com5
set_option Elab.async false
set_option autoImplicit false
set_option linter.all false
set_option maxRecDepth 100000
set_option maxHeartbeats 4000000
namespace Com5
noncomputable section
open PySem PySem.Spec PyProof.Rows L2 Evl Pyr Com2 Com3
end
end Com5
set_option Elab.async false
set_option autoImplicit false
set_option linter.all false
set_option maxRecDepth 100000
set_option maxHeartbeats 1000000
namespace Pyr
open PySem PySem.Spec PyProof.Rows L2 Evl
section
variable {prog : Program} {w : World} {κ : Type} [DecidableEq κ] {knd : KeyKind prog w κ} {A : Around} {E : Value → Shared → Prop} {s : Shared}
end
end Pyr
set_option Elab.async false
set_option autoImplicit false
set_option linter.all false
set_option maxRecDepth 100000
set_option maxHeartbeats 1000000
namespace Pyr
open PySem PySem.Spec PyProof.Rows L2 Evl
section
variable {X : Cx} {a b : Expr} {ta tb : TE} {pos : Pos}
end
section
variable {TS : TabList} {X : Cx} {pos p1 p2 : Pos} {x y : Str}
end
end Pyr
set_option Elab.async false
set_option autoImplicit false
set_option linter.all false
set_option maxRecDepth 100000
set_option maxHeartbeats 1000000
namespace Pyr
open PySem PySem.Spec PyProof.Rows L2 Evl
section
variable {TS : TabList} {X : Cx} {a b c : Expr} {fa fb fc : En → Res D} {apos cpos : Pos}
end
section
variable {TS : TabList} {X : Cx} {pos : Pos}
end
end Pyr
set_option Elab.async false
set_option autoImplicit false
set_option linter.all false
set_option maxRecDepth 100000
set_option maxHeartbeats 1000000
namespace Pyr
open PySem PySem.Spec PyProof.Rows L2 Evl RZ
section
variable {TS : TabList} {X : Cx} {W : WX} {tg iter : Expr} {fi : En → Res (List D)} {F : Frm → Res Fl} {body : List Stmt} {pos : Pos} {t : Tr}
end
section
variable {TS : TabList} {X : Cx} {a b : Expr} {fa fb : En → Res D} {pos tpos p : Pos} {elts : List Expr} {kk : Nat}
end
end Pyr
set_option Elab.async false
set_option autoImplicit false
set_option linter.all false
set_option maxRecDepth 100000
set_option maxHeartbeats 1000000
namespace Pyr
open PySem PySem.Spec PyProof.Rows L2 Evl
open L2.DX (itemsO itemsO_ok)
section
variable {TS : TabList} {X : Cx}
variable {a : Expr} {fa : En → Res D}
end
end Pyr
set_option Elab.async false
set_option autoImplicit false
set_option linter.all false
set_option maxRecDepth 100000
set_option maxHeartbeats 1000000
namespace Pyr
open PySem PySem.Spec PyProof.Rows L2 Evl
theorem RpOs.len {K : PySem.W.Frag} {G H : Hp} : ∀ {l : List Addr} {us : List V} {dss : List (List D)}, RpOs K G H l us dss → us.length = l.length ∧ dss.length = l.length
  | _, _, _, .nil => ⟨rfl, rfl⟩
  | _, _, _, .cons _ _ _ q => ⟨congrArg (· + 1) q.len.1, congrArg (· + 1) q.len.2⟩
section
variable {TS : TabList} {K : PySem.W.Frag} {G_0 H_0 G H : Hp} {ρ : Frm} {σ : L2.St} {fp : Nat → List Addr}
end
section
variable {TS : TabList} {X : Cx} {kx vx : Expr} {fk fv : En → Res Pyr.D} {pos : Pos}
end
section
variable {TS : TabList} {K : PySem.W.Frag} {G_0 H_0 G H : Hp} {ρ : Frm} {σ : L2.St} {fp : Nat → List Addr}
end
section
variable {TS : TabList} {X : Cx} {rest : List Stmt} {F : Frm → Res Fl}
end
end Pyr
set_option Elab.async false
set_option autoImplicit false
set_option linter.all false
set_option maxRecDepth 100000
set_option maxHeartbeats 1000000
namespace Pyr
open PySem PySem.Spec PyProof.Rows L2 Evl
def gK {α : Type} (n m : Nat) (us ws : List α) : List α := if us.length = n ∧ ws.length = m then us ++ ws else []
structure KnownK (TS : TabList) (P : Program) (w : World) (K : PySem.W.Frag) (mg : Str → Option Value) (base : Heap) (k : Nat) (x : Str) (ps ks : List Str) (m : List D → Res RV) : Prop where
  ex : ∃ f fd, FnOk P w K mg base (L2N.CX P w) k f fd ps (spD TS K mg m) ∧ mg x = some (.ref f) ∧ PySem.W.keepIn K (.ref f) = true ∧ KBinds K fd ps ks (gK (ps.length - ks.length) ks.length) (gK (ps.length - ks.length) ks.length)
theorem KnownK.cast {TS : TabList} {P : Program} {w : World} {K : PySem.W.Frag} {mg : Str → Option Value} {base : Heap} {k : Nat} {x : Str} {ps ks : List Str} {m m' : List D → Res RV} (e : m = m') (h : KnownK TS P w K mg base k x ps ks m') : KnownK TS P w K mg base k x ps ks m := by
  rw [e]
  exact h
section
variable {TS : TabList} {X : Cx} {a e : Expr} {es : List Expr} {fr : En → Res (List D)} {fe : En → Res D} {pos p kpos : Pos} {x kn : Str} {ps : List Str} {k k' : Nat} {m : List D → Res RV}
end
section
variable {K : PySem.W.Frag} {mg : Str → Option Value} {h : Heap} {x : Str} {st : Stmt} {ps ks : List Str}
end
end Pyr
set_option Elab.async false
set_option autoImplicit false
set_option linter.all false
set_option maxRecDepth 100000
set_option maxHeartbeats 2000000
namespace Pyr
open PySem PySem.Spec PyProof.Rows L2 Evl
section
variable {TS : TabList} {X : Cx} {a b e : Expr} {fa fb : En → Res D} {pos : Pos}
end
end Pyr
set_option Elab.async false
set_option autoImplicit false
set_option linter.all false
set_option maxRecDepth 100000
set_option maxHeartbeats 2000000
namespace Pyr
open PySem PySem.Spec PyProof.Rows L2 Evl
def WalkO (TS : TabList) (K : PySem.W.Frag) (J : It) (ds : List D) (G H : Hp) : Prop := ∀ (G1 H1 : Hp), Gr TS G H G1 H1 →
  (∀ (i : Nat) (x : D), ds[i]? = some x → J.go i H1 ∧ ∀ v H', J.yld i H1 v H' → ∃ G', Gr TS G1 H1 G' H' ∧ Rp K G' v x) ∧ J.stop ds.length H1
structure DIO (TS : TabList) (X : Cx) (tg iter : Expr) (f : En → Res (List D)) : Prop where
  run : ∀ (W : WX) (ρ : En) (σ : L2.St) (G H : Hp) (R : It → Hp → Prop), Takes X W → RpE TS X.K G H ρ σ → Ok0 TS G H → PostG (fun _ G' H' J ds => WalkO TS X.K J ds G' H') TS X W σ G H (f ρ) R → wpIt X tg iter σ H R
instance {TS : TabList} {X : Cx} {tg iter : Expr} {f : En → Res (List D)} : CoeFun (DIO TS X tg iter f) fun _ => ∀ (W : WX) (ρ : En) (σ : L2.St) (G H : Hp) (R : It → Hp → Prop), Takes X W → RpE TS X.K G H ρ σ → Ok0 TS G H → PostG (fun _ G' H' J ds => WalkO TS X.K J ds G' H') TS X W σ G H (f ρ) R → wpIt X tg iter σ H R := ⟨DIO.run⟩
section
variable {TS : TabList} {X : Cx} {tg iter elt : Expr} {fi : En → Res (List D)} {tt : En → Res Bool} {fe : En → Res D} {ifs : List Expr} {pos : Pos} {t : Tg} {scope : Scope} {own : List (Str × Nat)}
end
end Pyr
set_option Elab.async false
set_option autoImplicit false
set_option linter.all false
set_option maxRecDepth 100000
set_option maxHeartbeats 8000000
namespace Pyr
open PySem PySem.Spec PyProof.Rows L2 Evl
section
variable {K : PySem.W.Frag} {G : Hp} {c : Addr} {u w : HO}
end
section
variable {TS : TabList} {X : Cx} {tg iter kx vx : Expr} {fi : En → Res (List D)} {tt : En → Res Bool} {fk fv : En → Res D} {ifs : List Expr} {pos : Pos} {t : Tg} {scope : Scope} {own : List (Str × Nat)}
end
end Pyr
set_option Elab.async false
set_option autoImplicit false
set_option linter.all false
set_option maxRecDepth 100000
set_option maxHeartbeats 4000000
namespace Pyr
open PySem PySem.Spec PyProof.Rows L2 Evl
structure DM (TS : TabList) (X : Cx) (e : Expr) (f : En → Res (List D × D × List D)) : Prop where
  run : ∀ (W : WX) (ρ : En) (σ : L2.St) (G H : Hp) (Q : VK), Takes X W → RpE TS X.K G H ρ σ → Ok0 TS G H → PostG (RelM X.K) TS X W σ G H (f ρ) Q → wpE X e σ H Q
section
variable {TS : TabList} {X : Cx} {W : WX} {a b c e : Expr} {es rest : List Expr} {fa fc : En → Res (List D)} {fb fe : En → Res D} {fr : En → Res (List D)} {fm : En → Res (List D × D × List D)} {pos p : Pos} {x : Str} {ps : List Str} {k k' : Nat} {m : List D → Res RV} {F : Frm → Res Fl}
variable {G_0 H_0 G H G1 H1 : Hp} {ρ : Frm} {σ : L2.St} {fp : Nat → List Addr} {D : Ends}
variable {stm : List Stmt}
end
end Pyr
set_option Elab.async false
set_option autoImplicit false
set_option linter.all false
set_option maxRecDepth 100000
set_option maxHeartbeats 4000000
namespace Pyr
open PySem PySem.Spec PyProof.Rows L2 Evl HotX
open L2H (Hot1)
section
variable {prog : Program} {w : World} {A : Around} {E : Value → Shared → Prop} {s : Shared}
end
structure TurnG (p : Addr × Obj) (P : Program) (w : World) (K : PySem.W.Frag) (tg : Expr) (J : It) (fp : List Addr) (it : Addr) (tn : Nat → Heap → Prop) : Prop where
  mem : it ∈ fp
  obj : ∀ i h, tn i h → ∀ b ∈ fp, ∃ o, h.get? b = some o ∧ ∀ v, o.data ≠ .cell v
  keep : ∀ i h h', tn i h → (∀ b ∈ fp, ∀ o, h.get? b = some o → h'.get? b = some o) → tn i h'
  item : ∀ (X : Cx), X.prog = P → X.w = w → X.K = K → Hot1 X.A p → ∀ (i : Nat) (pins : List (Addr × Obj)), p ∈ X.pn ++ pins → ∀ (s : Shared) (σ : L2.St) (H : Hp) (E : Value → Shared → Prop), Inv X pins σ H s → (∀ b ∈ fp, FpOk X pins H b) → tn i s.heap → J.go i H →
    wpAny (model P w) X.A (pyNext (.ref it)) (fun r s1 => ∃ u, r = some u ∧ wpAny (model P w) X.A (letOwnedTupleGo tg (.ref it) u) (fun _ s2 => ∃ x H', Inv X pins σ H' s2 ∧ L2.RelV x u ∧ J.yld i H x H' ∧ tn (i + 1) s2.heap ∧ ∀ b ∈ fp, H' b = none) E s1) E s
  done : ∀ (X : Cx), X.prog = P → X.w = w → X.K = K → Hot1 X.A p → ∀ (i : Nat) (pins : List (Addr × Obj)), p ∈ X.pn ++ pins → ∀ (s : Shared) (σ : L2.St) (H : Hp) (E : Value → Shared → Prop), Inv X pins σ H s → (∀ b ∈ fp, FpOk X pins H b) → tn i s.heap → J.stop i H →
    wpAny (model P w) X.A (pyNext (.ref it)) (fun r s1 => r = none ∧ Inv X pins σ H s1) E s
  self : ∀ (A : Around) (i : Nat) (s : Shared) (Q : Value → Shared → Prop) (E : Value → Shared → Prop), tn i s.heap → Q (.ref it) s → wpAny (model P w) A (pyIter (.ref it)) Q E s
def PIEG (p : Addr × Obj) (X : Cx) (pins : List (Addr × Obj)) (σ : L2.St) (tg : Expr) (R : It → Hp → Prop) (v : Value) (s : Shared) : Prop :=
  ∃ (it : Addr) (fp : List Addr) (tn : Nat → Heap → Prop) (J : It) (H : Hp), v = .ref it ∧ Inv X pins σ H s ∧ TurnG p X.prog X.w X.K tg J fp it tn ∧ tn 0 s.heap ∧ (∀ b ∈ fp, FpOk X pins H b) ∧ R J H
structure PIG (p : Addr × Obj) (X : Cx) (tg iter : Expr) (wi : TI) : Prop where
  run : ∀ (pins : List (Addr × Obj)) (s : Shared) (σ : L2.St) (H : Hp) (R : It → Hp → Prop), Inv X pins σ H s → wi σ H R → wpAny (model X.prog X.w) X.A (eval iter X.env) (fun v s1 => wpAny (model X.prog X.w) X.A (pyIter v) (PIEG p X pins σ tg R) X.xe s1) X.xe s
section
variable {X : Cx} {tg : Expr} {p : Addr × Obj}
end
section
variable {X : Cx} {p : Addr × Obj} {elt tg iter : Expr} {ifs : List Expr} {gs : List Comprehension} {scope : Scope} {own : List (Str × Nat)} {pos : Pos} {wi : TI} {g : TG} {tt : TT} {body : Addr → TB} {B : Cx → Addr → BR} {vs1 : List Nat}
end
end Pyr
set_option Elab.async false
set_option autoImplicit false
set_option linter.all false
set_option maxRecDepth 100000
set_option maxHeartbeats 4000000
namespace Pyr
open PySem PySem.Spec PyProof.Rows L2 Evl HotX
open L2H (Hot1)
def wpItG (p : Addr × Obj) (X : Cx) (tg iter : Expr) : TI := fun σ H R => ∀ (pins : List (Addr × Obj)) (s : Shared), Inv X pins σ H s → wpAny (model X.prog X.w) X.A (eval iter X.env) (fun v s1 => wpAny (model X.prog X.w) X.A (pyIter v) (PIEG p X pins σ tg R) X.xe s1) X.xe s
structure DIG (TS : TabList) (p : Addr × Obj) (X : Cx) (tg iter : Expr) (f : En → Res (List D)) : Prop where
  run : ∀ (W : WX) (ρ : En) (σ : L2.St) (G H : Hp) (R : It → Hp → Prop), Takes X W → RpE TS X.K G H ρ σ → Ok0 TS G H → PostG (RelJ' TS X.K) TS X W σ G H (f ρ) R → wpItG p X tg iter σ H R
section
variable {TS : TabList} {X : Cx} {p : Addr × Obj} {a tg iter elt : Expr} {ifs : List Expr} {gs : List Comprehension} {scope : Scope} {own : List (Str × Nat)} {pos : Pos} {t : Tg} {fa fe : En → Res D} {fi : CF} {fb : CF} {tt : En → Res Bool} {body : Addr → TB} {B : Cx → Addr → BR} {vs1 : List Nat}
end
end Pyr
set_option Elab.async false
set_option autoImplicit false
set_option linter.all false
set_option maxRecDepth 100000
set_option maxHeartbeats 4000000
namespace Pyr
open PySem PySem.Spec PyProof.Rows L2 Evl HotX
open L2H (Hot1)
structure CtB (X : Cx) (p : Addr × Obj) : Prop where
  nd : X.N.Nodup
  un : X.A.units + 65 < cLine
  hot : Hot1 X.A p
  pn : p ∈ X.pn
section
variable {TS : TabList} {a : Addr} {c : Str} {G H G' H' : Hp}
end
def outV : Res Fl → Res RV
  | .ok (.ret v) => .ok v
  | .alt f => .alt fun i => outV (f i)
  | _ => .bad
section
variable {TS : TabList} {X : Cx} {W : WX} {p : Addr × Obj} {a : Addr} {e : Expr} {fe : En → Res D} {fl : En → Res (List D)} {pos : Pos}
theorem od_neB (C : CtB X p) : OpD TS X (compareOp .NotEq) neD := by
  refine ⟨fun W σ v u x y G H Q ok rx ry q => ?_⟩
  unfold neD at q
  split at q
  · rename_i h
    by_cases hs : scaD x y = true
    · obtain ⟨h1, h2⟩ := eq_eqv rx ry hs
      exact wpO_of op_ne ⟨h1, by rw [h2]; exact fin1 ok q (.bl _)⟩
    · rw [Bool.or_eq_true, Bool.and_eq_true] at h
      obtain ⟨hx, hy⟩ := h.resolve_left hs
      exact wpO_of (op_neD (by have := C.un; omega)) ⟨x, y, (rx.mono ok.le).okdp hx, (ry.mono ok.le).okdp hy, okd_shaped hx, okd_shaped hy, fin1 ok q (.bl _)⟩
  · exact q.elim
theorem ds_setLB2 (i : Nat) {x : Str} {pos' : Pos} (he : DL TS X e fl) (C : CtB X p) (hi : X.N[i]? = some x := by rfl) (hx : Loc X.env.scope x := by first | exact Or.inl rfl | exact Or.inr rfl) (hs : swapsWith e (some (.Name x pos')) pos.line X.env = pure false := by rfl) (hf : X.fn x = true ∨ X.env.scope.names.lookup x = some .local := by first | exact .inl rfl | exact .inr rfl) :
    DSt TS X (.Assign [.Name x pos'] e pos) (sSetL i fl) :=
  ⟨fun W ρ σ G_0 H_0 G H fp D tk s q => wpSt_of (ps_set C.nd hi hx (pe_wp X e) hs hf) (evL_run he tk s q fun v ds G1 H1 g r q => let ⟨fp', s'⟩ := s.storeL (i := i) g r; q _ G1 H1 fp' g.g s')⟩
theorem CtE.suite {oe : Obj} {pn : List (Addr × Obj)} {cls : Value} {d : Option Addr} (C : CtE X) (hz : L2N.Zn cls d oe) (hf : ∃ vs, oe.data = .fields vs) : CtB (X.suite a ((a, oe) :: pn)) (a, oe) :=
  let ⟨vs, e⟩ := hf
  ⟨C.nd, C.un, ⟨rfl, vs, e, hz.2.2 vs e⟩, List.mem_cons_self⟩
end
end Pyr
set_option Elab.async false
set_option autoImplicit false
set_option linter.all false
set_option maxRecDepth 100000
set_option maxHeartbeats 4000000
namespace Pyr
open PySem PySem.Spec PyProof.Rows L2 Evl HotX
open L2H (Hot1 HotC TurnH PIEH PIH)
section
variable {TS : TabList} {X : Cx} {q : Addr × Obj} {a tg : Expr} {fa : En → Res D} {pos : Pos}
end
section
variable {TS : TabList} {X : Cx} {p : Addr × Obj} {tg iter elt : Expr} {ifs : List Expr} {gs : List Comprehension} {scope : Scope} {own : List (Str × Nat)} {t : Tg} {fe : En → Res D} {fi : CF} {tt : En → Res Bool} {body : Addr → TB} {B : Cx → Addr → BR} {vs1 : List Nat} {pos : Pos}
end
end Pyr
set_option Elab.async false
set_option autoImplicit false
set_option linter.all false
set_option maxRecDepth 100000
set_option maxHeartbeats 4000000
namespace Pyr
open PySem PySem.Spec PyProof.Rows L2 Evl
section
variable {TS : TabList} {X : Cx} {pos : Pos}
end
end Pyr
set_option Elab.async false
set_option autoImplicit false
set_option linter.all false
set_option maxRecDepth 100000
set_option maxHeartbeats 4000000
namespace Pyr
open PySem PySem.Spec PyProof.Rows L2 Evl
section
variable {TS : TabList} {X : Cx} {W : WX} {e : Expr} {fe : En → Res Pyr.D} {pos : Pos}
variable {G_0 H_0 G H G1 H1 : Hp} {ρ : Frm} {σ : L2.St} {fp : Nat → List Addr} {D : Ends}
end
end Pyr
set_option Elab.async false
set_option autoImplicit false
set_option linter.all false
set_option maxRecDepth 100000
set_option maxHeartbeats 4000000
namespace Pyr
open PySem PySem.Spec PyProof.Rows L2 Evl
mutual
def Tr.all : Tr → List Nat
  | .nm i => [i]
  | .tp ts => ts.all
def Trs.all : Trs → List Nat
  | .nil => []
  | .cons t ts => t.all ++ ts.all
end
section
variable {TS : TabList} {K : PySem.W.Frag} {G H : Hp}
end
section
variable {TS : TabList} {X : Cx} {tg iter elt : Expr} {fi : En → Res (List Pyr.D)} {tt : En → Res Bool} {fe : En → Res Pyr.D} {ifs : List Expr} {pos : Pos} {t : Tr} {scope : Scope} {own : List (Str × Nat)}
end
def leTD (x y : Pyr.D) : Res Pyr.D := match x, y with
  | .tuple xs, .tuple ys => if PySem.W.alike (.tuple xs) (.tuple ys) = true ∧ okd (.tuple xs) = true ∧ okd (.tuple ys) = true then .ok (.bool (!PySem.W.dataLt (.tuple ys) (.tuple xs))) else .bad
  | _, _ => leD x y
section
variable {TS : TabList} {X : Cx}
theorem op_leD2 (hu : X.A.units + 65 < cLine) : OpR X (compareOp .LtE) (fun x y H Q => ∃ d e, Dp X.K H x d ∧ Dp X.K H y e ∧ PySem.W.alike d e = true ∧ d ≠ .none ∧ SeqAt.shaped d = true ∧ Q (.bl (!PySem.W.dataLt e d)) H) := by
  intro pins s σ H x y v u Q I rx ry h
  obtain ⟨d, e, hd, he, al, nn, sd, q⟩ := h
  obtain ⟨as, r1⟩ := Dp.reads I d x v hd rx
  obtain ⟨bs, r2⟩ := Dp.reads I e y u he ry
  have dep := SeqAt.depth_of_shaped sd
  exact PySem.W.le_data r1 r2 al nn (by have := Nat.min_le_left d.depth e.depth; omega) ⟨.bl _, H, I, rfl, q⟩
theorem od_leT (C : CtE X) : OpD TS X (compareOp .LtE) leTD := by
  refine ⟨?_⟩
  intro W σ v u x y G H Q ok rx ry p
  unfold leTD at p
  split at p
  · rename_i xs ys
    split at p
    · rename_i h
      exact wpO_of (op_leD2 (by have := C.un; omega)) ⟨_, _, (rx.mono ok.le).okdp h.2.1, (ry.mono ok.le).okdp h.2.2, h.1, (fun z => by cases z), okd_shaped h.2.1, fin1 ok p (.bl _)⟩
    · exact p.elim
  · exact od_le.run W σ v u x y G H Q ok rx ry p
end
end Pyr
set_option Elab.async false
set_option linter.all false
set_option maxRecDepth 100000
namespace L2
open PySem PySem.Spec PyProof.Rows GenW
section
variable {M : Model} {A : Around} {R : GenEnd} {Y : Protocol} {n : Nat} {s₀ : Shared} {c : Code} {fs : List Frame} {s : Shared} {env : Env}
  {K : Flow → Sem PySem.Fin} {H : Value → Sem PySem.Fin} {gd : Bool → Bool} {lv : List Value → List Value}
end
section
variable {prog : Program} {w : World} {A : Around} {R : GenEnd} {Y : Protocol} {n : Nat} {s₀ : Shared} {fs : List Frame} {s : Shared} {env : Env}
end
section
variable {X : Cx} {tg : Expr}
end
end L2
set_option Elab.async false
set_option autoImplicit false
set_option linter.all false
set_option maxRecDepth 100000
set_option maxHeartbeats 1000000
namespace Pyr
open PySem PySem.Spec PyProof.Rows L2 Evl
structure DGs (TS : TabList) (X : Cx) (body : List Stmt) (F : Frm → Res (List D)) : Prop where
  ex : ∃ t, GSs X body t ∧ ∀ (ρ : Frm) (σ : L2.St) (G_0 H_0 G H : Hp) (fp : Nat → List Addr) (Dn : GEnds) (xs : List D), SI TS X.K G_0 H_0 ρ σ G H fp → F ρ = .ok xs →
    (∀ (ys : List V) (σ' : L2.St) (G' H' : Hp), Gr TS G_0 H_0 G' H' → Rps X.K G' ys xs → Dn.nx ys σ' H') → t Dn [] σ H
section
variable {TS : TabList} {X : Cx} {st : Stmt} {rest : List Stmt} {F1 : Frm → Res Fl} {F2 : Frm → Res (List D)} {iter : Expr} {fi : En → Res (List D)} {pos p1 p2 p3 p4 : Pos}
end
def spG (TS : TabList) (K : PySem.W.Frag) (n : Nat) (m : List D → Res (List D)) : SpG := fun vs H Q _ => ∃ G ds xs, ds.length = n ∧ Rps K G vs ds ∧ Ok0 TS G H ∧ m ds = .ok xs ∧ ∀ ys G' H', Gr TS G H G' H' → Rps K G' ys xs → Q ys H'
structure KnownG (TS : TabList) (P : Program) (w : World) (K : PySem.W.Frag) (mg : Str → Option Value) (base : Heap) (k : Nat) (x : Str) (ps : List Str) (m : List D → Res (List D)) : Prop where
  ex : ∃ f fd, GFn P w K mg base k f fd ps (spG TS K ps.length m) ∧ mg x = some (.ref f) ∧ PySem.W.keepIn K (.ref f) = true ∧ Binds K fd ps []
theorem KnownG.cast {TS : TabList} {P : Program} {w : World} {K : PySem.W.Frag} {mg : Str → Option Value} {base : Heap} {k : Nat} {x : Str} {ps : List Str} {m m' : List D → Res (List D)} (e : m = m') (h : KnownG TS P w K mg base k x ps m') : KnownG TS P w K mg base k x ps m := e ▸ h
end Pyr
set_option Elab.async false
set_option autoImplicit false
set_option linter.all false
set_option maxRecDepth 100000
set_option maxHeartbeats 4000000
namespace Pyr
open PySem PySem.Spec PyProof.Rows L2 Evl
structure RK (K : PySem.W.Frag) (u : Value) (d : D) : Prop where
  ex : ∃ v : V, L2.RelV v u ∧ ∀ G, Rp K G v d
inductive RKs (K : PySem.W.Frag) : List Value → List D → Prop
  | nil : RKs K [] []
  | cons {u : Value} {d : D} {us : List Value} {ds : List D} : RK K u d → RKs K us ds → RKs K (u :: us) (d :: ds)
inductive RKd (K : PySem.W.Frag) (w : World) : List DictEntry → List (Str × D) → Prop
  | nil : RKd K w [] []
  | cons {x : Str} {t : Tok} {u : Value} {g : Int} {d : D} {es : List DictEntry} {ps : List (Str × D)} : g = hashStr w x → RK K u d → RKd K w es ps → RKd K w (⟨g, .str x t, u⟩ :: es) ((x, d) :: ps)
structure DicAt (K : PySem.W.Frag) (w : World) (A : Addr) (ps : List (Str × D)) : Prop where
  ex : ∃ (es : Array DictEntry) (n : Nat), K.lookup A = some ⟨.type "dict", none, .dict es n, #[]⟩ ∧ RKd K w es.toList ps
  low : (A == sysModules) = false
  nd : (ps.map (·.1)).Nodup
  sz : ps.length ≤ sizeLine
theorem RKd.all {P : Program} {K : PySem.W.Frag} {w : World} : ∀ {es : List DictEntry} {ps : List (Str × D)}, RKd K w es ps → ∃ (vs : List (Key × Value)) (kvs : List (Key × V)), Pairs (mixKind P w) es vs ∧ KV kvs vs ∧ vs.map (·.1) = ps.map (fun p => (.inr p.1 : Key)) ∧
    (∀ e ∈ es, ∃ k, (mixKind P w).is k e.key = true ∧ e.hash = (mixKind P w).hash k) ∧ ∀ G, RpKv K G kvs (ps.map fun p => (.str p.1, p.2))
  | _, _, .nil => ⟨[], [], .nil, .nil, rfl, fun _ h => (List.not_mem_nil h).elim, fun _ => .nil⟩
  | _, _, .cons (x := x) (t := t) (u := u) (d := d) hg h r => by
    obtain ⟨vs, kvs, h1, h2, h3, h4, h5⟩ := r.all (P := P)
    obtain ⟨v, h6, h7⟩ := h.ex
    have hk : (mixKind P w).is (.inr x) (.str x t) = true := strKind_is P w x t
    refine ⟨(.inr x, u) :: vs, (.inr x, v) :: kvs, .cons hk rfl h1, .cons ⟨rfl, h6⟩ h2, by rw [List.map_cons, List.map_cons, h3], fun e he => ?_, fun G => .cons (h7 G) (h5 G)⟩
    rcases List.mem_cons.mp he with z | z
    · rw [z]
      exact ⟨.inr x, hk, hg⟩
    · exact h4 e z
section
variable {TS : TabList} {X : Cx} {pos p p2 : Pos} {x : Str} {ps : List (Str × D)}
end
end Pyr
set_option Elab.async false
set_option autoImplicit false
set_option linter.all false
set_option maxRecDepth 100000
set_option maxHeartbeats 4000000
namespace Pyr
open PySem PySem.Spec PyProof.Rows L2 Evl HotX
open L2H (Hot1)
def spI (C : Addr) (fs : List Str) : Sp := fun vs H Q _ => ∃ (a : Addr) (ys : List V), vs = .ref a :: ys ∧ ys.length = fs.length ∧ H a = some (exo a C none) ∧
  ∀ dx, H dx = none → dx ≠ a → Q .non (upd (upd H dx (exd dx (fs.zip ys).reverse)) a (exo a C (some dx)))
structure KnownX (P : Program) (w : World) (K : PySem.W.Frag) (mg : Str → Option Value) (base : Heap) (x : Str) (fs : List Str) : Prop where
  ex : ∃ (C fI : Addr) (fd : FuncData), OexC K C ∧ PySem.W.findIn K (.ref C) "__init__" = some (some (.ref fI)) ∧ PySem.W.typeIn K (.ref fI) = some (.type "function") ∧ mg x = some (.ref C) ∧
    FnOk P w K mg base (L2N.CX P w) 1 fI fd ("self" :: fs) (spI C fs) ∧ Binds K fd ("self" :: fs) []
theorem upd_swap {H : Hp} {a b : Addr} {o u z : HO} (h : b ≠ a) : upd (upd (upd H b z) a o) b u = upd (upd H b u) a o := by
  funext c
  by_cases h1 : c = b
  · subst h1
    rw [upd_same, upd_ne h, upd_same]
  · rw [upd_ne h1]
    by_cases h2 : c = a
    · subst h2
      rw [upd_same, upd_same]
    · rw [upd_ne h2, upd_ne h2, upd_ne h1, upd_ne h1]
section
variable {P : Program} {w : World} {K : PySem.W.Frag} {mg : Str → Option Value} {base : Heap} {x qual : Str} {st : Stmt} {f C : Addr} {fd : FuncData} {f1 f2 : Str}
theorem init1 (Fn : L2.Fun K x qual st f fd) (T : OexC K C) (S : FnScope ["self", f1] ["self", f1] (defScope st)) {p1 p2 p3 p4 : Pos} (hb : defBody st = [.Assign [.Attribute (.Name "self" p1) f1 p2] (.Name f1 p3) p4])
    (v0 : Vis (defScope st) "self") (v1 : Vis (defScope st) f1) (d1 : (f1 == ("__debug__" : Str)) = false) (e1 : (f1 == ("__classdict__" : Str)) = false) (n1 : PySem.W.findIn K (.ref C) f1 = some none)
    (hs : ∀ env : Env, swapsWith (.Name f1 p3) (some (.Attribute (.Name "self" p1) f1 p2)) p4.line env = pure false := by intro _; rfl) : FnOk P w K mg base (L2N.CX P w) 1 f fd ["self", f1] (spI C [f1]) := by
  refine fun_ok Fn S (fun vs H Q E h => ?_) (fun cdv A outer s H vs Q E hr h => ?_)
  · obtain ⟨a, ys, rfl, hl, _⟩ := h
    simpa using hl
  · obtain ⟨a, ys, rfl, hl, ea, q⟩ := h
    match ys, hl with
    | [y], _ =>
      rw [hb]
      refine ⟨_, pss_one (ps_ost (pe_var (i := 0) rfl v0) (pe_var (i := 1) rfl v1 d1 e1) (hs _)), ?_⟩
      exact ⟨y, rfl, .ref a, rfl, a, C, rfl, T, n1, .inl ⟨ea, fun dx hn ne => q dx hn ne⟩⟩
theorem init2 (Fn : L2.Fun K x qual st f fd) (T : OexC K C) (S : FnScope ["self", f1, f2] ["self", f1, f2] (defScope st)) {p1 p2 p3 p4 q1 q2 q3 q4 : Pos}
    (hb : defBody st = [.Assign [.Attribute (.Name "self" p1) f1 p2] (.Name f1 p3) p4, .Assign [.Attribute (.Name "self" q1) f2 q2] (.Name f2 q3) q4])
    (v0 : Vis (defScope st) "self") (v1 : Vis (defScope st) f1) (v2 : Vis (defScope st) f2) (d1 : (f1 == ("__debug__" : Str)) = false) (e1 : (f1 == ("__classdict__" : Str)) = false) (d2 : (f2 == ("__debug__" : Str)) = false) (e2 : (f2 == ("__classdict__" : Str)) = false)
    (n1 : PySem.W.findIn K (.ref C) f1 = some none) (n2 : PySem.W.findIn K (.ref C) f2 = some none)
    (hs : ∀ env : Env, swapsWith (.Name f1 p3) (some (.Attribute (.Name "self" p1) f1 p2)) p4.line env = pure false := by intro _; rfl)
    (hs2 : ∀ env : Env, swapsWith (.Name f2 q3) (some (.Attribute (.Name "self" q1) f2 q2)) q4.line env = pure false := by intro _; rfl) : FnOk P w K mg base (L2N.CX P w) 1 f fd ["self", f1, f2] (spI C [f1, f2]) := by
  refine fun_ok Fn S (fun vs H Q E h => ?_) (fun cdv A outer s H vs Q E hr h => ?_)
  · obtain ⟨a, ys, rfl, hl, _⟩ := h
    simpa using hl
  · obtain ⟨a, ys, rfl, hl, ea, q⟩ := h
    match ys, hl with
    | [y, z], _ =>
      rw [hb]
      refine ⟨_, pss_cons (ps_ost (pe_var (i := 0) rfl v0) (pe_var (i := 1) rfl v1 d1 e1) (hs _)) (pss_one (ps_ost (pe_var (i := 0) rfl v0) (pe_var (i := 2) rfl v2 d2 e2) (hs2 _))), ?_⟩
      refine ⟨y, rfl, .ref a, rfl, a, C, rfl, T, n1, .inl ⟨ea, fun dx hn ne => ?_⟩⟩
      refine ⟨z, rfl, .ref a, rfl, a, C, rfl, T, n2, .inr ⟨dx, [(f1, y)], upd_same, by rw [upd_ne ne, upd_same], (by simp : ([(f1, y)] : List (Str × V)).length ≤ 900), ?_⟩⟩
      have h := q dx hn ne
      rw [← upd_swap (z := exd dx [(f1, y)]) ne] at h
      exact h
end
section
variable {X : L2.Cx} {CX : CXT} {x : Str} {e : Expr} {es : List Expr} {ta : TA} {p pos : Pos} {C fI : Addr} {k : Nat} {fd : FuncData} {ps : List Str} {sp : Sp}
theorem pmk_init (T : OexC X.K C) (ini : PySem.W.findIn X.K (.ref C) "__init__" = some (some (.ref fI))) (ty : PySem.W.typeIn X.K (.ref fI) = some (.type "function")) (F1 : FnOk X.prog X.w X.K X.mg X.base CX k fI fd ps sp) (room : Room (k + 1) X.A)
    (hb : Binds X.K fd ps []) (out : Passes CX X (fun _ _ _ => False)) (hg : Gl X x) (at_ : X.mg x = some (.ref C)) (args : PA X (e :: es) ta) (hdb : (x == ("__debug__" : Str)) = false := by decide)
    (star : starEach (e :: es) X.env = (false, eval e X.env) :: starEach es X.env := by rfl) (plain : (backTo pos (starEach es X.env)).any (·.1) = false := by rfl) : L2N.PMk X (.Call (.Name x p) (e :: es) [] pos) (tMkO C sp [] ta) := by
  intro pins s σ H Q I h
  obtain ⟨nm, q, N, bs, bm, sn, sub, ab, col, dd, k0, k1, k2, k3, k5, hC, ve⟩ := T.cls
  refine wpAny_Call_Name_kw (ld_glob I hg at_ ?_ hdb)
  refine PySem.W.callWith_K (h₀ := X.base) I.ok.mod.kin T.kC (thn (args.run pos pins s σ H _ I h) fun us s1 ⟨vs, H1, J1, rel, few, wish⟩ => ⟨J1.kIn, ?_⟩) star plain
  show wpAny _ _ (call (.ref C) us) _ _ _
  obtain ⟨hp, gens, dr, tk, os⟩ := s1
  generalize hz : hp.objs.size = z at *
  have up : hp.objs.size ≤ z + 1 := by omega
  have free : H1 (z + 1) = none := J1.hok.fresh up
  have asked := wish (z + 1) free
  rw [List.append_nil] at asked
  have keep : ∀ b o, hp.get? b = some o → ((hp.push (PySem.W.kdv_tup us)).push (PySem.HandSPX.excO C z)).get? b = some o := fun b o q => Heap.get?_push_of_some _ (Heap.get?_push_of_some _ q)
  have there : ((hp.push (PySem.W.kdv_tup us)).push (PySem.HandSPX.excO C z)).get? (z + 1) = some (PySem.HandSPX.excO C z) := by rw [← hz]; heap_get
  have J2 : Inv X pins σ (upd H1 (z + 1) (exo (z + 1) C none)) ⟨(hp.push (PySem.W.kdv_tup us)).push (PySem.HandSPX.excO C z), gens, dr, tk, os⟩ :=
    J1.laid (t' := tk) (a := z + 1) (o := exo (z + 1) C none) keep up (exo_ok there)
  have vals : Vals (V.ref (z + 1) :: vs) (Value.ref (z + 1) :: us) := .cons rfl rel
  have cnt : (Value.ref (z + 1) :: us ++ []).length = ps.length := by
    rw [List.append_nil, ← Paired.length vals]
    exact F1.len _ _ _ _ asked
  have line : us.length ≤ sizeLine := by
    rw [← Paired.length rel, sizeLine_eq]
    omega
  have bound := hb _ (Value.ref (z + 1) :: us) J2.kIn cnt
  rw [List.append_nil] at bound
  subst hz
  refine wpAny_call (PySem.HandSPX.call_own F.excBase_ValueError (fun Y => PySem.HandSPX.refsVE_contains Y bm ve) (J1.kIn _ _ hC) (PySem.W.looks_findIn J1.kIn ini) (fun self => PySem.W.bind_fn J1.kIn self ty) line
    (codeAny_mono (F1.run _ X.stack _ _ ⟨Value.ref (hp.objs.size + 1) :: us, []⟩ _ _ _ (fun _ _ _ => False) (room.make C us []) (J2.env0.make C us []) bound vals asked) fun r s' hr => ?_))
  cases r with
  | error er => exact out pins σ _ _ er s' J2 hr
  | ok fl =>
    cases fl with
    | ret u =>
      obtain ⟨v, H2, os2, bare2, un2, hok2, rv, ev, d, fs, ea, ed, hd1, q2⟩ := hr
      subst ev
      obtain ⟨h2, g2, d2, t2, os'⟩ := s'
      obtain ⟨t0, G, J, kG, ge, hoe, na⟩ := mk_end0 (d2 := d2) (t2 := t2) J1 up keep un2 hok2 os2 bare2 ea ed hd1
      refine ⟨rv, _, _, _, ⟨G, g2, d2, t2, os'⟩, _, .ref C, some d, rfl, J, kG, ge, hoe, ⟨rfl, rfl, fun vs hv => ?_⟩, rfl, rfl, na, rfl, bare2, raises_own T.exC T.tyC, q2⟩
      cases hv
      rfl
    | _ => exact hr.elim
end
def sRaiseF (c : Str) (fs : List Str) (fa : En → Res (List D)) : Frm → Res Fl := fun ρ => (fa (purE ρ)).bind fun ds => if ds.length = fs.length ∧ 0 < fs.length ∧ fs.length ≤ 9 then .exc c (fs.zip ds).reverse else .bad
theorem excRep_of {K : PySem.W.Frag} {G H : Hp} {d : Addr} {vfs : List (Str × V)} {fs : List (Str × D)} (ne : fs ≠ []) (h : G d = some (.xd vfs)) (h1 : vfs.map (·.1) = fs.map (·.1)) (h2 : Rps K G (vfs.map (·.2)) (fs.map (·.2))) : ExcRep K G H (some d) fs := by
  cases fs with
  | nil => exact (ne rfl).elim
  | cons p fs => exact ⟨d, vfs, rfl, h, h1, h2⟩
theorem zip_map1 {α β : Type} : ∀ {xs : List α} {ys : List β}, ys.length = xs.length → (xs.zip ys).map (·.1) = xs
  | [], [], _ => rfl
  | x :: xs, y :: ys, h => by
    rw [List.zip_cons_cons, List.map_cons, zip_map1 (Nat.succ.inj h)]
theorem zip_map2 {α β : Type} : ∀ {xs : List α} {ys : List β}, ys.length = xs.length → (xs.zip ys).map (·.2) = ys
  | [], [], _ => rfl
  | x :: xs, y :: ys, h => by
    rw [List.zip_cons_cons, List.map_cons, zip_map2 (Nat.succ.inj h)]
section
variable {TS : TabList} {X : L2.Cx} {x : Str} {fs : List Str} {e : Expr} {es : List Expr} {fa : En → Res (List Pyr.D)} {p pos pos2 : Pos}
theorem ds_raiseF (Ct : CtE X) (k : KnownX X.prog X.w X.K X.mg X.base x fs) (room : Room 2 X.A) (hg : Gl X x) (ha : DA TS X (e :: es) fa) (hdb : (x == ("__debug__" : Str)) = false := by decide)
    (star : starEach (e :: es) X.env = (false, eval e X.env) :: starEach es X.env := by rfl) (plain : (backTo pos (starEach es X.env)).any (·.1) = false := by rfl) : DSt TS X (.Raise (some (.Call (.Name x p) (e :: es) [] pos)) none pos2) (sRaiseF x fs fa) := by
  obtain ⟨C, fI, fd, T, ini, ty, at_, F1, hb⟩ := k
  refine ⟨?_⟩
  intro W ρ σ G_0 H_0 G H fp D tk s p
  refine wpSt_of (L2N.ps_raise Ct.calm tk (pmk_init T ini ty F1 room hb (L2N.passes_call tk fun _ _ _ _ h => h.elim) hg at_ (pa_wp X (e :: es)) hdb star plain)) ?_
  refine ha W (purE ρ) σ G H _ tk s.pure s.gr.ok (stP s p fun vs ds G1 H1 g r q => ?_)
  split at q
  · rename_i hl
    obtain ⟨hl, ne, few⟩ := hl
    have lv : vs.length = fs.length := by rw [r.len, hl]
    refine ⟨by omega, fun a hn => ⟨a, vs, by rw [List.append_nil], lv, upd_same, fun dx hd ne2 => ?_⟩⟩
    have hd1 : H1 dx = none := by
      rw [upd_ne ne2] at hd
      exact hd
    have eH : upd (del (upd (upd (upd H1 a (exo a C none)) dx (exd dx (fs.zip vs).reverse)) a (exo a C (some dx))) a) dx (.xd (fs.zip vs).reverse) = upd H1 dx (.xd (fs.zip vs).reverse) := by
      funext b
      by_cases h1 : b = dx
      · subst h1
        rw [upd_same, upd_same]
      · rw [upd_ne h1, upd_ne h1]
        by_cases h2 : b = a
        · subst h2
          rw [del_same, hn]
        · rw [del_ne h2, upd_ne h2, upd_ne h1, upd_ne h2]
    refine ⟨rfl, dx, _, upd_same, by rw [upd_ne ne2, upd_same], hd1, ?_⟩
    rw [eH]
    have g2 : Gr TS G1 H1 (upd G1 dx (.xd (fs.zip vs).reverse)) (upd H1 dx (.xd (fs.zip vs).reverse)) := Gr.new g.ok hd1
    refine q C (some dx) σ _ _ at_ ((s.gr.trans g).trans g2) (excRep_of ?_ upd_same ?_ ?_)
    · intro z
      have z := congrArg List.length z
      rw [List.length_reverse, List.length_zip, hl, Nat.min_self] at z
      rw [z] at ne
      exact Nat.lt_irrefl 0 ne
    · rw [List.map_reverse, List.map_reverse, zip_map1 lv, zip_map1 hl]
    · rw [List.map_reverse, List.map_reverse, zip_map2 lv, zip_map2 hl]
      exact rps_rev (r.mono g2.g)
  · exact q.elim
end
def PostSx (TS : TabList) (X : L2.Cx) (W : WX) (σ : L2.St) (G_0 H_0 G H : Hp) (D : Ends) : Res Fl → Prop
  | .alt f => ∀ i, PostSx TS X W σ G_0 H_0 G H D (f i)
  | .exc c fs => PostX TS X W σ G H c fs
  | .ok fl => PostS TS X W G_0 H_0 G D (.ok fl)
  | .bad => False
structure DSx (TS : TabList) (X : L2.Cx) (st : List Stmt) (F : Frm → Res Fl) : Prop where
  run : ∀ (W : WX) (ρ : Frm) (σ : L2.St) (G_0 H_0 G H : Hp) (fp : Nat → List Addr) (D : Ends), Takes X W → SI TS X.K G_0 H_0 ρ σ G H fp → PostSx TS X W σ G_0 H_0 G H D (F ρ) → wpSs X st D σ H
section
variable {TS : TabList} {X : L2.Cx} {W : WX} {σ : L2.St} {ρ : Frm} {G_0 H_0 G H G1 H1 : Hp} {D : Ends} {fp : Nat → List Addr} {e c : Expr} {fe : En → Res Pyr.D} {ft : En → Res Bool} {F F1 F2 : Frm → Res Fl} {b1 b2 : List Stmt} {pos : Pos}
theorem PostSx.shift {r : Res Fl} (g : Gr TS G H G1 H1) (p : PostSx TS X W σ G_0 H_0 G H D r) : PostSx TS X W σ G_0 H_0 G1 H1 D r := by
  induction r with
  | ok fl => exact PostS.shift g.g p
  | exc c fs => exact PostX.shift g p
  | bad => exact p
  | alt f ih => exact fun i => ih i (p i)
theorem PostSx.tr {pn : List (Addr × Obj)} {xe : Value → Shared → Prop} {r : Res Fl} (p : PostSx TS X W σ G_0 H_0 G H D r) : PostSx TS (X.tr pn xe) W σ G_0 H_0 G H D r := by
  induction r with
  | ok fl => exact PostS.tr (show PostS TS X W G_0 H_0 G D (.ok fl) from p)
  | exc c fs => exact p
  | bad => exact p
  | alt f ih => exact fun i => ih i (p i)
theorem stX {α γ : Type} {Rel : Hp → Hp → Hp → γ → α → Prop} {r : Res α} {k : α → Res Fl} {R : γ → Hp → Prop} (p : PostSx TS X W σ G_0 H_0 G H D (r.bind k))
    (next : ∀ v x G1 H1, Gr TS G H G1 H1 → Rel H G1 H1 v x → PostSx TS X W σ G_0 H_0 G H D (k x) → R v H1) : PostG Rel TS X W σ G H r R := by
  induction r with
  | ok x => exact fun v G1 H1 g r => next v x G1 H1 g r p
  | exc c fs => exact p
  | bad => exact p
  | alt f ih => exact fun i => ih i (p i)
theorem stXB {α γ : Type} {Rel : Hp → Hp → Hp → γ → α → Prop} {r : Res α} {k : α → Res Fl} {R : γ → Hp → Prop} (ok : Ok0 TS G H) (p : PostSx TS X W σ G_0 H_0 G H D ((bare r).bind k))
    (next : ∀ v x G1 H1, Gr TS (noTb H) H G1 H1 → Rel H G1 H1 v x → PostSx TS X W σ G_0 H_0 G H D (k x) → R v H1) : PostG Rel TS X W σ (noTb H) H r R := by
  induction r with
  | ok x => exact fun v G1 H1 g r => next v x G1 H1 g r p
  | exc c fs =>
    cases fs with
    | nil => exact fun C d G' H' m g r => p C d G H' m (gr_noTb ok g) r
    | cons _ _ => exact p.elim
  | bad => exact p
  | alt f ih => exact fun i => ih i (p i)
theorem dsx_if (hc : DT TS X c ft) (h1 : DSx TS X b1 F1) (h2 : DSx TS X b2 F2) : DSx TS X [.If c b1 b2 pos] (sIf ft F1 F2) := by
  refine ⟨?_⟩
  intro W ρ σ G_0 H_0 G H fp D tk s p
  refine wpSs_of (pss_one (ps_if (pt_wp X c) (pss_wp X b1) (pss_wp X b2))) ?_
  refine hc W (frzE ρ) σ (noTb H) H _ tk s.frz (ok_noTb s.gr.ok) (stXB s.gr.ok p fun v b G1 H1 g r p => ?_)
  subst r
  have g' := gr_noTb s.gr.ok g
  cases v with
  | true => exact iteT (h1.run W ρ σ G_0 H_0 G H1 fp D tk (s.grow g') (p.shift g'))
  | false => exact iteF (h2.run W ρ σ G_0 H_0 G H1 fp D tk (s.grow g') (p.shift g'))
end
abbrev TabList.exf (TS : TabList) (a : Addr) (c : Str) (d : Option Addr) : TabList := { TS with ex := some (a, c, d) }
section
variable {TS : TabList} {a : Addr} {c : Str} {d : Option Addr} {G H G' H' : Hp} {K : PySem.W.Frag}
theorem Ok0.exf (k : Ok0 TS G H) : Ok0 (TS.exf a c d) G H := ⟨k.le, ⟨k.tb.all, k.tb.cs⟩, k.nt⟩
theorem Ok0.unexf (k : Ok0 (TS.exf a c d) G H) : Ok0 TS G H := ⟨k.le, ⟨k.tb.all, k.tb.cs⟩, k.nt⟩
theorem Gr.exf (g : Gr TS G H G' H') : Gr (TS.exf a c d) G H G' H' := ⟨g.g, g.h, g.nw, g.ok.exf⟩
theorem Gr.unexf (g : Gr (TS.exf a c d) G H G' H') : Gr TS G H G' H' := ⟨g.g, g.h, g.nw, g.ok.unexf⟩
theorem RpO.exf {l : List Addr} {v : V} {o : Own} (hx : TS.ex = none) (r : RpO TS K G H l v o) : RpO (TS.exf a c d) K G H l v o := by
  cases r with
  | lst h r => exact .lst h r
  | set h => exact .set ⟨h.ex⟩
  | tup h n q => exact .tup h n q
  | dic h r => exact .dic h r
  | dil h z d n q => exact .dil h z d n q
  | mix h n q r => exact .mix h n q r
  | strm h => exact .strm h
  | exc h =>
    cases h with
    | cls h =>
      rw [hx] at h
      cases h
    | fld h =>
      rw [hx] at h
      cases h
theorem SI.exf {G_0 H_0 : Hp} {ρ : Frm} {σ : L2.St} {fp : Nat → List Addr} (hx : TS.ex = none) (s : SI TS K G_0 H_0 ρ σ G H fp) : SI (TS.exf a c d) K G_0 H_0 ρ σ G H fp :=
  ⟨s.gr.exf, s.len, s.val, fun i o h => let ⟨v, h1, h2⟩ := s.own i o h; ⟨v, h1, h2.exf hx⟩, s.apart, s.free⟩
end
theorem PostS.ofOutF {TS : TabList} {X : L2.Cx} {W : WX} {a : Addr} {c : Str} {d : Option Addr} {G_0 H_0 G : Hp} {D : Ends} : ∀ {r : Res Fl}, PostS TS X W G_0 H_0 G D ((outV r).map Fl.ret) → PostS (TS.exf a c d) X (fun _ _ _ _ => False) G_0 H_0 G D r := fun {r} => by
  induction r with
  | ok fl =>
    cases fl with
    | ret v =>
      cases v <;> exact fun p u G' H' g => p u G' H' g.unexf
    | _ => exact fun p => p.elim
  | exc d fs => exact fun p => p.elim
  | bad => exact fun p => p.elim
  | alt f ih => exact fun p i => ih i (p i)
theorem PostS.rtOf {TS : TabList} {X : L2.Cx} {W : WX} {G_0 H_0 G : Hp} {D : Ends} {n b c : L2.St → Hp → Prop} : ∀ {r : Res RV}, PostS TS X W G_0 H_0 G D (r.map Fl.ret) → PostS TS X W G_0 H_0 G { nx := n, rt := D.rt, bk := b, ct := c } (r.map Fl.ret) := fun {r} => by
  induction r with
  | ok v => cases v <;> exact fun p => p
  | exc d fs => exact fun p => p
  | bad => exact fun p => p
  | alt f ih => exact fun p i => ih i (p i)
def xiD (c : Str) : List (Str × D) → D
  | [] => .str c
  | fs => xfD c fs
def sTryF (ct : CtTab) (i : Nat) (Fb Fs : Frm → Res Fl) : Frm → Res Fl := fun ρ => match Fb ρ with
  | .exc c fs => (match ctT ct c with
    | some true => (outV (Fs (ρ.set i (.own (.exc (xiD c fs)))))).map .ret
    | some false => .exc c fs
    | none => .bad)
  | .alt _ => .bad
  | r => r
section
variable {TS : TabList} {X : L2.Cx} {i : Nat} {pos : Pos}
theorem ds_tryF {x n : Str} {body suite : List Stmt} {b₀ : Stmt} {Fb Fs : Frm → Res Fl} {ct : CtTab} {np pos' : Pos} (hs : X.stack = X.env :: X.outer) (hf : X.env.frame = some X.env.locals) (hN : X.N.Nodup) (hi : X.N[i]? = some n) (hln : X.env.kindOf n = some .local)
    (hgx : Gl X x) (hdx : (x == ("__debug__" : Str)) = false) (T : CtT X.K X.mg x ct) (hx : TS.ex = none) (hb : ∀ (pn : List (Addr × Obj)) (xe : Value → Shared → Prop), DSx TS (X.tr pn xe) body Fb)
    (hsu : ∀ (a : Addr) (oe : Obj) (C : Addr) (pn : List (Addr × Obj)) (c : Str) (d : Option Addr), X.mg c = some (.ref C) → L2N.Zn (.ref C) d oe → (∃ vs, oe.data = .fields vs) → DSs (TS.exf a c d) (X.suite a ((a, oe) :: pn)) (b₀ :: suite) Fs) :
    DSt TS X (.Try body [.ExceptHandler (some (.Name x np)) (some n) (b₀ :: suite) pos'] [] [] pos) (sTryF ct i Fb Fs) := by
  refine ⟨?_⟩
  intro W ρ σ G_0 H_0 G H fp D tk s p
  obtain ⟨Dx, hD, hct⟩ := T
  refine wpSt_of (L2N.ps_try_as (i := i) (c := .ref Dx) (tb := fun W' => fun D σ H => ∃ (ρ : Frm) (G_0 H_0 G : Hp) (fp : Nat → List Addr), SI TS X.K G_0 H_0 ρ σ G H fp ∧ PostSx TS X W' σ G_0 H_0 G H D (Fb ρ))
    (ts := fun a cls d => fun D σ H => ∃ (ρ : Frm) (σ0 : L2.St) (G_0 H_0 G : Hp) (W : WX) (c : Str) (C : Addr) (fs : List (Str × Pyr.D)) (fp : Nat → List Addr), σ = σ0.set i (some (.ref a)) ∧ cls = .ref C ∧ X.mg c = some (.ref C) ∧ SI TS X.K G_0 H_0 ρ σ0 G H fp ∧ ExcRep X.K G H d fs ∧
      PostS TS X W G_0 H_0 G D ((outV (Fs (ρ.set i (.own (.exc (xiD c fs)))))).map Fl.ret))
    (Wout := W) hs hf hN hi hln ⟨hgx, hdx, .inl hD⟩ tk (fun W' pn xe tk' _ => ⟨fun pins s1 σ1 H1 D1 I h => ?_⟩) (fun a oe cls d pn hz hfl => ⟨fun pins s1 σ1 H1 D1 I h => ?_⟩)) ?_
  · obtain ⟨ρ1, G0', H0', G1, fp1, s', p'⟩ := h
    exact (hb pn xe).run W' ρ1 σ1 G0' H0' G1 H1 fp1 D1 tk' s' p'.tr pins s1 I
  · obtain ⟨ρ1, σ0, G0', H0', G1, W1, c, C, fs, fp1, rfl, rfl, hc, s', er, p'⟩ := h
    have sx : SI (TS.exf a c d) X.K G0' H0' (ρ1.set i (.own (.exc (xiD c fs)))) (σ0.set i (some (.ref a))) G1 H1 (setFp fp1 i []) := by
      refine (s'.exf hx).setOwn (l := []) (.exc ?_) (fun b hb => nomatch hb) fun _ _ _ _ b hb => nomatch hb
      cases fs with
      | nil =>
        have e : d = none := er
        subst e
        exact .cls rfl
      | cons f fs =>
        obtain ⟨dd, vfs, rfl, h1, h2, h3⟩ := er
        exact .fld rfl h1 h2 h3
    exact (hsu a oe C pn c d hc hz hfl).run _ _ _ G0' H0' G1 H1 _ D1 takes0 sx p'.suite.ofOutF pins s1 I
  · refine ⟨ρ, G_0, H_0, G, fp, s, ?_⟩
    unfold sTryF at p
    cases hf1 : Fb ρ with
    | ok fl =>
      rw [hf1] at p
      cases fl with
      | next ρ' => exact p
      | ret r => cases r <;> exact p
      | brk ρ' => exact p
      | cont ρ' => exact p
    | alt f =>
      rw [hf1] at p
      exact p.elim
    | bad =>
      rw [hf1] at p
      exact p.elim
    | exc c fs =>
      rw [hf1] at p
      intro C d G' H' hc g hr
      have p : PostS TS X W G_0 H_0 G D (match ctT ct c with
        | some true => (outV (Fs (ρ.set i (.own (.exc (xiD c fs)))))).map .ret
        | some false => .exc c fs
        | none => .bad) := p
      unfold ctT at p
      cases hq : ct.find? fun p => p.1 == c with
      | none =>
        rw [hq] at p
        exact p.elim
      | some t =>
        rw [hq] at p
        have hm1 := List.mem_of_find?_eq_some hq
        have hp := List.find?_some hq
        rw [beq_iff_eq] at hp
        subst hp
        obtain ⟨C', hc', hx'⟩ := hct t hm1
        rw [hc] at hc'
        cases hc'
        have p : PostS TS X W G_0 H_0 G D (match some t.2 with
          | some true => (outV (Fs (ρ.set i (.own (.exc (xiD t.1 fs)))))).map .ret
          | some false => .exc t.1 fs
          | none => .bad) := p
        refine ⟨t.2, hx', fun hb a ha => ⟨ρ, σ, G_0, H_0, G', W, t.1, C, fs, fp, rfl, rfl, hc, s.grow g, hr, ?_⟩, fun hb => ?_⟩
        · rw [hb] at p
          exact PostS.rtOf (p.shift g.g)
        · rw [hb] at p
          exact p C d σ G' H' hc (s.gr.trans g) hr
end
def fldD (f : Str) : List D → Option D
  | [] => none
  | .tuple [.str g, d] :: r => if g = f then some d else fldD f r
  | _ :: _ => none
def eXf (tb : List (Str × Str)) (i : Nat) (f : Str) : En → Res D := fun ρ => match ρ[i]? with
  | some (some (.dict [(.bool false, .list (.str c :: es))])) => if (c, f) ∈ tb then (match fldD f es with
    | some d => .ok d
    | none => .bad) else .bad
  | _ => .bad
def XfT (K : PySem.W.Frag) (mg : Str → Option Value) (tb : List (Str × Str)) : Prop := ∀ p ∈ tb, ∃ C, mg p.1 = some (.ref C) ∧ L2.XfC K C ∧ PySem.W.findIn K (.ref C) p.2 = some none
theorem fldD_at {K : PySem.W.Frag} {G : Hp} {f : Str} {d : D} : ∀ {fs : List (Str × D)} {vfs : List (Str × V)}, vfs.map (·.1) = fs.map (·.1) → Rps K G (vfs.map (·.2)) (fs.map (·.2)) → fldD f (fs.map fun p => .tuple [.str p.1, p.2]) = some d → ∃ v, vfs.lookup f = some v ∧ Rp K G v d
  | [], _, _, _, h => by cases h
  | (g, x) :: fs, [], e, _, _ => by cases e
  | (g, x) :: fs, (g', y) :: vfs, e, r, h => by
    rw [List.map_cons, List.map_cons] at e
    obtain ⟨e1, e2⟩ := List.cons.inj e
    have e1 : g' = g := e1
    subst e1
    cases r with
    | cons r rs =>
      have h : (if g' = f then some x else fldD f (fs.map fun p => .tuple [.str p.1, p.2])) = some d := h
      by_cases q : g' = f
      · rw [if_pos q] at h
        cases h
        subst q
        exact ⟨y, by simp [List.lookup], r⟩
      · rw [if_neg q] at h
        obtain ⟨v, h1, h2⟩ := fldD_at e2 rs h
        refine ⟨v, ?_, h2⟩
        have z : (f == g') = false := by
          rw [beq_eq_false_iff_ne]
          exact fun w => q w.symm
        rw [List.lookup, z]
        exact h1
section
variable {TS : TabList} {Y : L2.Cx} {a C : Addr} {oe : Obj} {pn : List (Addr × Obj)} {tb : List (Str × Str)} {i : Nat} {n c f : Str} {d : Option Addr} {p2 pos : Pos}
end
def FNone (K : PySem.W.Frag) (C : Addr) : List Str → Prop
  | [] => True
  | f :: r => PySem.W.findIn K (.ref C) f = some none ∧ FNone K C r
def metS (st : Stmt) (j : Nat) : Stmt := match st with
  | .ClassDef _ _ _ body _ _ _ _ _ _ _ => body.getD j st
  | _ => st
def InitQ (K : PySem.W.Frag) (x qual : Str) (fs : List Str) (st : Stmt) : Prop := ∃ (C fI : Addr) (oc : Value) (od an : Option Addr) (sl : Array (Option Value)) (kV doc pm cd ct : Value),
  PySem.W.nsIn K mainGlobals x = some (some (.ref C)) ∧ OexC K C ∧ PySem.W.findIn K (.ref C) "__init__" = some (some (.ref fI)) ∧ PySem.W.typeIn K (.ref fI) = some (.type "function") ∧
    K.lookup fI = some ⟨oc, od, .func (PySem.W.fnOf "__init__" qual (defArgs st) (defBody st) (defScope st) .none kV doc pm an cd ct), sl⟩ ∧ PySem.W.codeIn K cd qual = true ∧ PySem.W.keepIn K (.ref fI) = true ∧ FNone K C fs
def BindOkM (qual : Str) (st : Stmt) (ps : List Str) : Prop := ∀ (kV doc pm : Value) (an : Option Addr) (cdv ct : Value) (us : List Value), us.length = ps.length → bindArgs (PySem.W.fnOf "__init__" qual (defArgs st) (defBody st) (defScope st) .none kV doc pm an cdv ct) ⟨us, []⟩ = pure (ps.zip us)
def XfQ (K : PySem.W.Frag) (c f : Str) : Prop := ∃ C, PySem.W.nsIn K mainGlobals c = some (some (.ref C)) ∧ XfC K C ∧ PySem.W.findIn K (.ref C) f = some none
section
variable {P : Program} {w : World} {K : PySem.W.Frag} {mg : Str → Option Value} {base h : Heap} {x qual f1 f2 : Str} {st : Stmt}
theorem InitQ.known1 (i : InitQ K x qual [f1] st) (X : K.In h) (G : h.Ns mainGlobals mg) (S : FnScope ["self", f1] ["self", f1] (defScope st)) (b : BindOkM qual st ["self", f1]) {p1 p2 p3 p4 : Pos} (hb : defBody st = [.Assign [.Attribute (.Name "self" p1) f1 p2] (.Name f1 p3) p4])
    (v0 : Vis (defScope st) "self") (v1 : Vis (defScope st) f1) (d1 : (f1 == ("__debug__" : Str)) = false) (e1 : (f1 == ("__classdict__" : Str)) = false) : KnownX P w K mg base x [f1] := by
  obtain ⟨C, fI, oc, od, an, sl, kV, doc, pm, cd, ct, h1, h2, h3, h4, h5, h6, h7, h8, _⟩ := i
  have F := fun_mk h5 h6 h7
  exact ⟨C, fI, _, h2, h3, h4, PySem.W.mg_of X G h1, init1 F h2 S hb v0 v1 d1 e1 h8, F.binds b⟩
theorem InitQ.known2 (i : InitQ K x qual [f1, f2] st) (X : K.In h) (G : h.Ns mainGlobals mg) (S : FnScope ["self", f1, f2] ["self", f1, f2] (defScope st)) (b : BindOkM qual st ["self", f1, f2]) {p1 p2 p3 p4 q1 q2 q3 q4 : Pos}
    (hb : defBody st = [.Assign [.Attribute (.Name "self" p1) f1 p2] (.Name f1 p3) p4, .Assign [.Attribute (.Name "self" q1) f2 q2] (.Name f2 q3) q4])
    (v0 : Vis (defScope st) "self") (v1 : Vis (defScope st) f1) (v2 : Vis (defScope st) f2) (d1 : (f1 == ("__debug__" : Str)) = false) (e1 : (f1 == ("__classdict__" : Str)) = false) (d2 : (f2 == ("__debug__" : Str)) = false) (e2 : (f2 == ("__classdict__" : Str)) = false) : KnownX P w K mg base x [f1, f2] := by
  obtain ⟨C, fI, oc, od, an, sl, kV, doc, pm, cd, ct, h1, h2, h3, h4, h5, h6, h7, h8, h9, _⟩ := i
  have F := fun_mk h5 h6 h7
  exact ⟨C, fI, _, h2, h3, h4, PySem.W.mg_of X G h1, init2 F h2 S hb v0 v1 v2 d1 e1 d2 e2 h8 h9, F.binds b⟩
theorem xfT_nil : XfT K mg [] := fun p hp => nomatch hp
theorem xfT_cons {c f : Str} {tb : List (Str × Str)} (X : K.In h) (G : h.Ns mainGlobals mg) (q : XfQ K c f) (r : XfT K mg tb) : XfT K mg ((c, f) :: tb) := fun p hp => by
  rcases List.mem_cons.mp hp with rfl | hp
  · obtain ⟨C, h1, h2, h3⟩ := q
    exact ⟨C, PySem.W.mg_of X G h1, h2, h3⟩
  · exact r p hp
end
end Pyr
set_option Elab.async false
set_option autoImplicit false
set_option linter.all false
set_option maxRecDepth 100000
set_option maxHeartbeats 4000000
namespace Pyr
open PySem PySem.Spec PyProof.Rows L2 Evl HotX
open L2H (Hot1 RoomH FnH cxH)
structure KnownH (TS : TabList) (P : Program) (w : World) (K : PySem.W.Frag) (mg : Str → Option Value) (base : Heap) (k : Nat) (x : Str) (ps : List Str) (m : List D → Res RV) : Prop where
  ex : ∃ f fd, FnH P w K mg base (L2N.CX P w) k f fd ps (spD TS K mg m) ∧ mg x = some (.ref f) ∧ PySem.W.keepIn K (.ref f) = true ∧ Binds K fd ps []
theorem KnownH.cast {TS : TabList} {P : Program} {w : World} {K : PySem.W.Frag} {mg : Str → Option Value} {base : Heap} {k : Nat} {x : Str} {ps : List Str} {m m' : List D → Res RV} (e : m' = m) (h : KnownH TS P w K mg base k x ps m) : KnownH TS P w K mg base k x ps m' := by
  rw [e]
  exact h
theorem roomS {k : Nat} {A : Around} {h : Option Value} (r : Room k A) : RoomH k (A.mark h) := ⟨r.dp, r.un⟩
section
variable {TS : TabList} {X : L2.Cx} {p' : Addr × Obj} {a : Expr} {es : List Expr} {fr : En → Res (List D)} {pos p : Pos} {x : Str} {ps : List Str} {k k' : Nat} {m : List D → Res RV}
end
end Pyr
set_option Elab.async false
set_option autoImplicit false
set_option linter.all false
set_option maxRecDepth 100000
set_option maxHeartbeats 4000000
namespace Pyr
open PySem PySem.Spec PyProof.Rows L2 L2N Evl HotX
inductive RowOk (X : L2.Cx) (n : Str) : List ExceptHandler → List (Value × (Addr → Value → Option Addr → TS)) → Prop
  | nil : RowOk X n [] []
  | cons {x : Str} {c : Value} {ts : Addr → Value → Option Addr → TS} {b₁ : Stmt} {rest : List Stmt} {np pos : Pos} {hs : List ExceptHandler} {l : List (Value × (Addr → Value → Option Addr → TS))} (nm : L2.Names X x c)
      (su : ∀ (a : Addr) (ob : Obj) (cl : Value) (d : Option Addr) (pn : List (Addr × Obj)), Zn cl d ob → (∃ ws, ob.data = .fields ws) → PSs (X.suite a ((a, ob) :: pn)) (b₁ :: rest) (ts a cl d)) (r : RowOk X n hs l) :
      RowOk X n (.ExceptHandler (some (.Name x np)) (some n) (b₁ :: rest) pos :: hs) ((c, ts) :: l)
section
variable {X : L2.Cx} {n : Str} {i : Nat} {body : List Stmt} {k₀ : ExceptHandler} {ks : List ExceptHandler} {l : List (Value × (Addr → Value → Option Addr → TS))} {pos : Pos} {tb : WX → TS} {Wout : WX}
end
abbrev Cla := CtTab × (Frm → Res Fl)
def TsF (TS : TabList) (X : L2.Cx) (i : Nat) (F : Frm → Res Fl) : Addr → Value → Option Addr → L2.TS := fun a cl d D σ H => ∃ (ρ : Frm) (σ0 : L2.St) (G_0 H_0 G : Hp) (W : WX) (c : Str) (C : Addr) (fs : List (Str × Pyr.D)) (fp : Nat → List Addr),
  σ = σ0.set i (some (.ref a)) ∧ cl = .ref C ∧ X.mg c = some (.ref C) ∧ SI TS X.K G_0 H_0 ρ σ0 G H fp ∧ ExcRep X.K G H d fs ∧ PostS TS X W G_0 H_0 G D ((outV (F (ρ.set i (.own (.exc (xiD c fs)))))).map Fl.ret)
inductive RowD (TS : TabList) (X : L2.Cx) (n : Str) (i : Nat) : List ExceptHandler → List (Addr × Cla) → Prop
  | nil : RowD TS X n i [] []
  | cons {x : Str} {Dx : Addr} {ct : CtTab} {F : Frm → Res Fl} {b₁ : Stmt} {rest : List Stmt} {np pos : Pos} {hs : List ExceptHandler} {l : List (Addr × Cla)} (g : Gl X x) (db : (x == ("__debug__" : Str)) = false) (hD : X.mg x = some (.ref Dx)) (T : ∀ p ∈ ct, ∃ C, X.mg p.1 = some (.ref C) ∧ PySem.W.exmOne X.K (.ref C) (.ref Dx) = some p.2)
      (su : ∀ (a : Addr) (oe : Obj) (C : Addr) (pn : List (Addr × Obj)) (c : Str) (d : Option Addr), X.mg c = some (.ref C) → L2N.Zn (.ref C) d oe → (∃ vs, oe.data = .fields vs) → DSs (TS.exf a c d) (X.suite a ((a, oe) :: pn)) (b₁ :: rest) F) (r : RowD TS X n i hs l) :
      RowD TS X n i (.ExceptHandler (some (.Name x np)) (some n) (b₁ :: rest) pos :: hs) ((Dx, ct, F) :: l)
abbrev rowL (TS : TabList) (X : L2.Cx) (i : Nat) (l : List (Addr × Cla)) : List (Value × (Addr → Value → Option Addr → L2.TS)) := l.map fun q => (.ref q.1, TsF TS X i q.2.2)
section
variable {TS : TabList} {X : L2.Cx} {n : Str} {i : Nat} {pos : Pos}
theorem RowD.ok (hx : TS.ex = none) {hs : List ExceptHandler} {l : List (Addr × Cla)} (h : RowD TS X n i hs l) : RowOk X n hs (rowL TS X i l) := by
  induction h with
  | nil => exact .nil
  | @cons x Dx ct F b₁ rest np pos hs l g db hD T su r ih =>
    refine .cons ⟨g, db, .inl hD⟩ (fun a oe cl d pn hz hfl => ⟨fun pins s1 σ1 H1 D1 I h => ?_⟩) ih
    obtain ⟨ρ1, σ0, G0', H0', G1, W1, c, C, fs, fp1, rfl, rfl, hc, s', er, p'⟩ := h
    have sx : SI (TS.exf a c d) X.K G0' H0' (ρ1.set i (.own (.exc (xiD c fs)))) (σ0.set i (some (.ref a))) G1 H1 (setFp fp1 i []) := by
      refine (s'.exf hx).setOwn (l := []) (.exc ?_) (fun b hb => nomatch hb) fun _ _ _ _ b hb => nomatch hb
      cases fs with
      | nil =>
        have e : d = none := er
        subst e
        exact .cls rfl
      | cons f fs =>
        obtain ⟨dd, vfs, rfl, h1, h2, h3⟩ := er
        exact .fld rfl h1 h2 h3
    exact (su a oe C pn c d hc hz hfl).run _ _ _ G0' H0' G1 H1 _ D1 takes0 sx p'.suite.ofOutF pins s1 I
end
section
open PySem.W PySem.Calls
variable {prog : Program} {w : World} {A : Around} {E : Value → Shared → Prop} {s : Shared} {K : Frag} {x D : Addr} {ox : Obj} {od : Option Obj}
theorem find_dat {C : Addr} {nm : Str} {a g : Value} (hc : (clsIn K C).isSome = true) (ha : findIn K (.ref C) nm = some (some a)) (hg : specialIn K a "__get__" = some (some g)) (ht : takesIn K a = some true) : findObj K C od nm = some (.bind g a) := by
  obtain ⟨cd, hc⟩ := Option.isSome_iff_exists.mp hc
  unfold findObj
  rw [hc, Option.bind_some, ha, Option.bind_some]
  simp [hg, ht]
theorem class_of {Q : Option Value → Shared → Prop} (T : L2.ExcC K D) (X : K.In s.heap) (I : InstAt s.heap x ox D od) (h : Q (some (.ref D)) { s with toks := s.toks + 1 }) : wpAny (model prog w) A (getAttr? (.ref x) "__class__") Q E s := by
  have hd : (clsIn K D).isSome = true := by
    obtain ⟨cd, hc, _⟩ := any_some T.hd
    rw [hc]
    rfl
  have hf : findObj K D od "__class__" = some (.bind (.builtin "getset_descriptor.__get__") (.builtin "object.__class__")) := find_dat hd T.ha T.hn T.ht
  obtain ⟨hp, g, d, t, os⟩ := s
  have k0 := I.type (M := model prog w)
  have k1 := looks_findIn (M := model prog w) X T.hg
  have k2 := looks_findIn (M := model prog w) X T.hk
  have k3 := looks_find (M := model prog w) X I hf
  have base : Looks (model prog w) hp (isInstance (.ref x) (.type "BaseException")) true := k0.andThen (looks_subIn X T.hs)
  have x0 : (false && onTheHeap (Value.builtin "BaseException.__getattribute__")) = false := rfl
  have x2 : (Value.builtin "BaseException.__getattribute__" == Value.builtin "object.__getattribute__") = false := by decide +kernel
  have x1 : (onTheHeap (Value.ref D) && Value.builtin "BaseException.__getattribute__" == Value.builtin "object.__getattribute__") = false := by
    rw [x2]
    rfl
  unfold getAttr? getAttrBy? getAttrBy
  refine wpAny_bind (wpAny_mkText (wpAny_bind (wpAny_attempt (wpAny_holding (wpAny_bind (k0.at (wpAny_bind (k1.at ?_))))))))
  show wpAny _ _ (if (onTheHeap (Value.ref D) && Value.builtin "BaseException.__getattribute__" == Value.builtin "object.__getattribute__") = true then _ else _) _ _ _
  rw [x1, if_neg Bool.false_ne_true]
  unfold getAttrByItsOwn hookBefore
  refine wpAny_bind ?_
  rw [if_pos (show onTheHeap (Value.ref D) = true from rfl)]
  refine k2.at (wpAny_bind (wpAny_attempt (wpAny_holding ?_)))
  unfold callGetattribute
  rw [x0, if_neg Bool.false_ne_true]
  unfold boundAndCalled
  rw [PySem.F.excAttr_ValueError.ga.bind (.ref x)]
  refine wpAny_bind (wpAny_pure ?_)
  show wpAny _ _ (call (.builtin "BaseException.__getattribute__") [.ref x, .str "__class__" t]) _ _ _
  refine wpAny_call (codeAny_call_builtin PySem.F.excAttr_ValueError.ga.plain PySem.F.entry_bexc_ga ?_)
  refine @check_slot (model prog w) _ _ ⟨hp, g, d, t + 1, os⟩ "BaseException.__getattribute__" "BaseException" "__getattribute__" (.ref x) [.str "__class__" t] [] _ (by decide +kernel) (by decide +kernel) base (PySem.F.args_bexc_ga (.ref x) (.str "__class__" t)) ?_
  unfold Builtin.«object.__getattribute__»
  refine wpAny_bind (wpAny_of_eq (a := ((Value.ref x : Value), [Value.str "__class__" t])) (by first | rfl | (simp only [slotArgs]; rfl)) ?_)
  refine wpAny_bind (wpAny_pure (wpAny_bind (k0.at (wpAny_bind (k3.at ?_)))))
  show wpAny _ _ (holding [Value.builtin "object.__class__"] (call (.builtin "getset_descriptor.__get__") [.builtin "object.__class__", .ref x, .ref D]) >>= ret) _ _ _
  refine wpAny_bind (wpAny_holding (wpAny_call (class_get (s := ⟨hp, g, d, t + 1, os⟩) (ox := ox) (od := od) X I T.hm (wpAny_pure ?_))))
  show wpAny _ _ (handedOut (.ref D)) _ _ _
  rw [handedOut_of (v := .ref D) rfl]
  first
    | exact wpAny_pure h
    | exact wpAny_pure (wpAny_pure h)
    | exact wpAny_pure (wpAny_bind (wpAny_pure (wpAny_pure h)))
theorem kit_exc (T : L2.ExcC K D) : KitX K (.ref x) (.ref D) (fun h => ∃ od, InstAt h x ox D od) where
  ty := fun _ _ _ ⟨_, I⟩ => I.type
  it := fun _ _ X _ => by
    obtain ⟨cd, hc, _⟩ := any_some T.hd
    unfold clsIn at hc
    split at hc
    · rename_i c' d' cd' sl' ho
      intro A' Q' E' s' k q
      unfold isType loadHead
      exact wpAny_bind (wpAny_loadPart (k _ _ (X _ _ ho)) (wpAny_pure q))
    · cases hc
  ne := fun h tp dd its n sl X htp => by
    obtain ⟨cd, hc, _⟩ := any_some T.hd
    refine Bool.eq_false_iff.mpr fun q => ?_
    have e : D = tp := Value.ref.inj (beq_iff_eq.mp q)
    subst e
    unfold clsIn at hc
    split at hc
    · rename_i c' d' cd' sl' ho
      have z := (X _ _ ho).symm.trans htp
      cases z
    · cases hc
  ca := fun X ⟨_, I⟩ k => class_of T X I k
end
def DxAt (H : Hp) : Option Addr → Prop
  | none => True
  | some d => ∃ fs, H d = some (.xd fs)
def rIsF (K : PySem.W.Frag) (D a : Addr) (d : Option Addr) : List V → Hp → VK → Prop := fun xs H Q => ∃ (c : V) (cv : Value) (b : Bool), xs = [.ref a, c] ∧ (∀ u, L2.RelV c u → u = cv) ∧ PySem.W.kitOne K (.ref D) cv = some b ∧ DxAt H d ∧ Q (.bl b) H
def clsD : D → Option Str
  | .str c => some c
  | .list (.str c :: _) => some c
  | _ => none
def eIsF (tb : IsTab) (i : Nat) (x : Str) : En → Res D := fun ρ => match ρ[i]? with
  | some (some (.dict [(.bool false, m)])) => match (clsD m).bind (isT tb x) with
    | some b => .ok (.bool b)
    | none => .bad
  | _ => .bad
section
variable {TS : TabList} {X : L2.Cx} {p' : Addr × Obj}
end
end Pyr
set_option Elab.async false
set_option autoImplicit false
set_option linter.all false
set_option maxRecDepth 100000
set_option maxHeartbeats 4000000
namespace Pyr
open PySem PySem.Spec PyProof.Rows L2 Evl HotX
open L2H (Hot1 RoomH cxH PinOk inv_startH)
structure FnE (P : Program) (w : World) (K : PySem.W.Frag) (mg : Str → Option Value) (base : Heap) (CX : CXT) (k : Nat) (f : Addr) (fd : FuncData) (ps : List Str) (sp : Sp) (p : Addr × Obj) : Prop where
  len : ∀ vs H Q E, sp vs H Q E → vs.length = ps.length
  run : ∀ (A : Around) (outer : List Env) (s : Shared) (H : Hp) (args : Args) (us : List Value) (vs : List V) (Q : VK) (E : XK), RoomH k A → Hot1 A p → PinOk outer H s p → Env0 P w K mg base A outer s H → BindsTo s fd args (ps.zip us) → Vals vs us → sp vs H Q E →
    codeAny (model P w) A (.call (.ref f) args) (CR CX outer P w H s Q E) s
theorem fn_ofE {CX : CXT} {P : Program} {w : World} {K : PySem.W.Frag} {mg : Str → Option Value} {base : Heap} {k : Nat} {f : Addr} {name qual : Str} {params : Arguments} {body : List Stmt} {scope : Scope} {dV kV doc pm cdv ct oc : Value} {an od : Option Addr}
    {osl : Array (Option Value)} {N ps : List Str} {sp : Sp} {p : Addr × Obj} (lk : K.lookup f = some ⟨oc, od, .func (PySem.W.fnOf name qual params body scope dV kV doc pm an cdv ct), osl⟩) (hcd : PySem.W.codeIn K cdv qual = true) (S : FnScope N ps scope)
    (len : ∀ vs H Q E, sp vs H Q E → vs.length = ps.length)
    (hbody : ∀ (A : Around) (outer : List Env) (s : Shared) (H : Hp) (vs : List V) (Q : VK) (E : XK), Hot1 A p → RoomH k (A.deeper (envOfC qual scope s.heap.objs.size f cdv)) → sp vs H Q E →
      ∃ t, PSs (cxH CX P w K mg base N qual scope f cdv A outer s H E p) body t ∧ t { nx := fun _ H' => Q .non H', rt := Q } (L2.start N vs) H) :
    FnE P w K mg base CX (k + 1) f (PySem.W.fnOf name qual params body scope dV kV doc pm an cdv ct) ps sp p := by
  refine ⟨len, fun A outer s H args us vs Q E hr hot hpin e0 hb r hsp => ?_⟩
  have hl := len _ _ _ _ hsp
  have KX : K.In s.heap := e0.mod.kin.keeps fun b o e => (e0.bs b o e).1
  have lim : s.heap.NoLimit := e0.mod.nolimit.keeps fun b o e => (e0.bs b o e).1
  have hkind : ∀ y ∈ ps.zip us, scope.names.lookup y.1 = some .local ∨ (scope.names.lookup y.1 = some .cell ∧ ((cellsFrom (s.heap.objs.size + 1) scope.names []).lookup y.1).isSome = true) := fun ⟨n, v⟩ hy => by
    rcases S.par n (List.of_mem_zip hy).1 with q | q
    · exact .inl q
    · exact .inr ⟨q, PySem.W.cellsFrom_some _ _ _ (.inl q)⟩
  refine codeAny_call_function hr.depth (KX _ _ lk) rfl S.co S.gen rfl (PySem.W.codeRec_of KX hcd) (hb _ _ _ _ ?_)
  refine wpAny_newFunctionEnv_cells S.kind hkind fun env he s1 x => ?_
  subst he
  refine ⟨lim.keeps x.toInCall.keep, codeAny_func ?_⟩
  obtain ⟨t, ht, hq⟩ := hbody A outer s H vs Q E hot (hr.deeper _) hsp
  have I : Inv (cxH CX P w K mg base N qual scope f cdv A outer s H E p) [] (L2.start N vs) H s1 := inv_startH S hpin e0 hl r x
  refine wpAny_mono (ht.run [] s1 (L2.start N vs) H _ I hq) (fun fl s' hs => ?_) fun e s' hs => hs
  have fin : ∀ {σ' : L2.St} {H' : Hp} {v : V} {u : Value}, Inv (cxH CX P w K mg base N qual scope f cdv A outer s H E p) [] σ' H' s' → L2.RelV v u → Q v H' → CE outer P w H s Q u s' :=
    fun {σ' H' v u} J rv q => ⟨v, H', J.os, J.bare, J.base, J.hok, rv, q⟩
  cases fl with
  | ret u =>
    obtain ⟨v, σ', H', J, rv, q⟩ := hs
    exact fin J rv q
  | next =>
    obtain ⟨σ', H', J, q⟩ := hs
    exact fin (v := V.non) (u := Value.none) J rfl q
  | brk =>
    obtain ⟨_, _, _, q⟩ := hs
    exact False.elim q
  | cont =>
    obtain ⟨_, _, _, q⟩ := hs
    exact False.elim q
section
variable {X : Cx} {CX : CXT} {k : Nat} {f : Addr} {fd : FuncData} {ps : List Str} {sp : Sp} {E : L2.St → XK} {x : Str} {q pos : Pos} {e : Expr} {es : List Expr} {t : TA} {p : Addr × Obj}
theorem pe_callE (F : FnE X.prog X.w X.K X.mg X.base CX k f fd ps sp p) (hr : RoomH k X.A) (hot : Hot1 X.A p) (hp : p ∈ X.pn) (hg : Gl X x) (hm : X.mg x = some (.ref f)) (hk : PySem.W.keepIn X.K (.ref f) = true) (hb : Binds X.K fd ps []) (hx : ∀ σ, PassesAt CX X σ (E σ))
    (ha : PA X (e :: es) t) (hdb : (x == ("__debug__" : Str)) = false := by decide) (he : starEach (e :: es) X.env = (false, eval e X.env) :: starEach es X.env := by rfl) (hpl : (backTo pos (starEach es X.env)).any (·.1) = false := by rfl) :
    PE X (.Call (.Name x q) (e :: es) [] pos) (tCallS sp E t) := by
  refine ⟨fun pins s σ H Q I h => ?_⟩
  refine wpAny_Call_Name_kw (ld_glob I hg hm ?_ hdb)
  refine PySem.W.callWith_K (h₀ := X.base) I.ok.mod.kin hk (thn (ha.run pos pins s σ H _ I h) fun us s1 ⟨vs, H1, I1, r, q⟩ => ⟨I1.kIn, ?_⟩) he hpl
  have hl : us.length = ps.length := by rw [← r.length]; exact F.len _ _ _ _ q
  have b := hb s1 us I1.kIn (by rw [List.append_nil]; exact hl)
  rw [List.append_nil] at b
  have P1 := I1.pin p (List.mem_append_left _ hp)
  have hpin : PinOk X.stack H1 s1 p := ⟨P1.1, P1.2.1, fun hm => (List.mem_cons.mp (I1.stkSub p.1 hm)).elim P1.2.2.1 P1.2.2.2.1, P1.2.2.2.2⟩
  refine wpAny_call (codeAny_mono (F.run X.A X.stack s1 H1 ⟨us, []⟩ us vs Q (E σ) hr hot hpin I1.env0 b r q) fun r s' hq => ?_)
  cases r with
  | error e => exact hx σ pins H1 s1 e s' I1 hq
  | ok fl =>
    cases fl with
    | ret u => exact I1.after hq
    | next => exact False.elim hq
    | brk => exact False.elim hq
    | cont => exact False.elim hq
end
theorem call_isE {X : L2.Cx} {a D : Addr} {d : Option Addr} {oe : Obj} (hp : (a, oe) ∈ X.pn) (C : L2.ExcC X.K D) (hz : Zc (.ref D) d oe) (hf : ∃ vs, oe.data = .fields vs) : CallR X (.builtin "isinstance") (rIsF X.K D a d) := by
  intro pins s σ H xs us Q I r h
  obtain ⟨c, cv, b, rfl, hcv, e, hd, q⟩ := h
  cases r with
  | cons rx rr =>
    cases rr with
    | cons rt rr =>
      cases rr
      cases rx
      have ec := hcv _ rt
      subst ec
      obtain ⟨there, _⟩ := I.pin (a, oe) (List.mem_append_left _ hp)
      obtain ⟨vs, hv⟩ := hf
      have J : ∃ od, PySem.W.InstAt s.heap a oe D od := by
        cases d with
        | none => exact ⟨none, there, hz.1, by unfold PySem.W.notCls; rw [hv] <;> rfl, by rw [hz.2]; exact trivial⟩
        | some dd =>
          obtain ⟨fs, hx⟩ := hd
          have o : ObjOk X.prog X.w H s.heap dd (.xd fs) := I.hok dd _ hx
          obtain ⟨mA, hns, _⟩ := o
          obtain ⟨od, ho, _⟩ := lookIn_ns hns
          exact ⟨some od, there, hz.1, by unfold PySem.W.notCls; rw [hv] <;> rfl, by rw [hz.2]; exact ho⟩
      exact PySem.W.kia_one (kit_exc C) I.kIn J e (fun z => nomatch z) fun tk => ⟨.bl b, H, I.kept (t' := tk) fun _ _ z => z, rfl, q⟩
theorem de_isE {TS : TabList} {Y : L2.Cx} {a C : Addr} {d : Option Addr} {oe : Obj} {tb : IsTab} {i : Nat} {n x c : Str} {p p2 p3 pos : Pos} (T : IsT Y.K Y.mg tb) (hp : (a, oe) ∈ Y.pn) (hc : Y.mg c = some (.ref C)) (hz : Zc (.ref C) d oe) (hf : ∃ vs, oe.data = .fields vs)
    (hN : Y.N[i]? = some n) (hv : Vis Y.env.scope n) (hg : Gl Y "isinstance") (hm : Y.mg "isinstance" = none) (hgx : Gl Y x)
    (hd : (n == ("__debug__" : Str)) = false := by decide) (hcd : (n == ("__classdict__" : Str)) = false := by decide) (hdx : (x == ("__debug__" : Str)) = false := by decide)
    (he : starEach [.Name n p2, .Name x p3] Y.env = (false, eval (.Name n p2) Y.env) :: starEach [.Name x p3] Y.env := by rfl) (he2 : starEach [.Name x p3] Y.env = (false, eval (.Name x p3) Y.env) :: starEach [] Y.env := by rfl) (hpl : (backTo pos (starEach [.Name x p3] Y.env)).any (·.1) = false := by rfl) :
    DE (TS.exf a c d) Y (.Call (.Name "isinstance" p) [.Name n p2, .Name x p3] [] pos) (eIsF tb i x) := by
  refine ⟨fun W ρ σ G H Q tk re ok post => ?_⟩
  unfold eIsF at post
  split at post
  · rename_i m hi
    obtain ⟨a', h1, h2⟩ := re.ex i m hi
    have key : a' = a ∧ clsD m = some c ∧ DxAt H d := by
      cases h2 with
      | cls h =>
        cases h
        exact ⟨rfl, rfl, trivial⟩
      | fld h g1 _ _ =>
        cases h
        exact ⟨rfl, rfl, _, ok.le _ _ g1⟩
    obtain ⟨rfl, ec, hdx'⟩ := key
    rw [ec] at post
    split at post
    · rename_i b hb
      have hb : isT tb x c = some b := hb
      unfold isT at hb
      obtain ⟨t, ht, hr⟩ := Option.map_eq_some_iff.mp hb
      cases hr
      have hm1 := List.mem_of_find?_eq_some ht
      have hp2 := List.find?_some ht
      rw [Bool.and_eq_true, beq_iff_eq, beq_iff_eq] at hp2
      obtain ⟨rfl, rfl⟩ := hp2
      have fin := post (.bl t.2.2) G H (Gr.refl ok) (.bl _)
      cases T t hm1 with
      | own C' D h1' h2' h3' h4' =>
        rw [hc] at h1'
        cases h1'
        refine wpE_of (X := Y) (pe_callB (X := Y) (call_isE (X := Y) hp h2' hz hf) hg hm (by decide +kernel) (pa_cons (pe_var (i := i) hN hv hd hcd) (pa_cons (pe_glob (v := .ref D) hgx h3' rfl hdx) pa_nil he2) he) (by decide) (by decide) he hpl) ?_
        exact ⟨_, h1, .ref D, .ref D, t.2.2, rfl, fun u hu => hu, h4', hdx', fin⟩
      | ty C' T' h1' h2' h3' h4' h5' h6' =>
        rw [hc] at h1'
        cases h1'
        refine wpE_of (X := Y) (pe_callB (X := Y) (call_isE (X := Y) hp h2' hz hf) hg hm (by decide +kernel) (pa_cons (pe_var (i := i) hN hv hd hcd) (pa_cons (pe_bltn (v := .ty T') hgx h3' h4' rfl h5' hdx) pa_nil he2) he) (by decide) (by decide) he hpl) ?_
        exact ⟨_, h1, .ty T', .type T', t.2.2, rfl, fun u hu => hu, h6', hdx', fin⟩
    · exact post.elim
  · exact post.elim
theorem pe_xfE {X : Cx} {a C : Addr} {oe : Obj} {cls : Value} {d : Option Addr} {e : Expr} {te : TE} {pos : Pos} {n : Str} (hp : (a, oe) ∈ X.pn) (T : L2.XfC X.K C) (hno : PySem.W.findIn X.K (.ref C) n = some none)
    (hz : Zc cls d oe) (hf : ∃ vs, oe.data = .fields vs) (he : PE X e te) (hb : attributeBase e n X.env (eval e X.env) = eval e X.env := by rfl) :
    PE X (.Attribute e n pos) (tXf a cls d C n te) := by
  refine ⟨fun pins s σ H Q I h => ?_⟩
  refine attr_of hb (thn (he.run pins s σ H _ I h) fun u s1 hh => ?_)
  obtain ⟨x, H1, I1, rx, ex, ec, dd, fs, v, ed, ea, l, q⟩ := hh
  subst ex
  obtain rfl : u = Value.ref a := rx
  subst ec
  subst ed
  obtain ⟨ha, _⟩ := I1.pin (a, oe) (List.mem_append_left _ hp)
  obtain ⟨vs, hd⟩ := hf
  have hx : ObjOk X.prog X.w H1 s1.heap dd (.xd fs) := I1.hok dd _ ea
  obtain ⟨mA, hns, hr⟩ := hx
  obtain ⟨od, ho, hl⟩ := lookIn_ns hns
  obtain ⟨u, hu, ru⟩ := RelO.some_of (v := v) (o := mA n) (by rw [← l]; exact hr n)
  have J : PySem.W.InstAt s1.heap a oe C (some od) := ⟨ha, hz.1, by unfold PySem.W.notCls; rw [hd] <;> rfl, by rw [hz.2]; exact ho⟩
  exact HandSPX.exc_get I1.kIn J T.ga T.gg T.exC (PySem.W.findObj_own T.hdC hno rfl (by rw [hl, hu])) (handed_of ru) ⟨v, H1, I1.tok _, ru, q⟩
theorem de_xfE {TS : TabList} {Y : L2.Cx} {a C : Addr} {oe : Obj} {tb : List (Str × Str)} {i : Nat} {n c f : Str} {d : Option Addr} {p2 pos : Pos} (T : XfT Y.K Y.mg tb) (hp : (a, oe) ∈ Y.pn) (hc : Y.mg c = some (.ref C)) (hz : Zc (.ref C) d oe) (hf : ∃ vs, oe.data = .fields vs) (hN : Y.N[i]? = some n) (hv : Vis Y.env.scope n)
    (hd : (n == ("__debug__" : Str)) = false := by decide) (hcd : (n == ("__classdict__" : Str)) = false := by decide)
    (hb : attributeBase (.Name n p2) f Y.env (eval (.Name n p2) Y.env) = eval (.Name n p2) Y.env := by rfl) :
    DE (TS.exf a c d) Y (.Attribute (.Name n p2) f pos) (eXf tb i f) := by
  refine ⟨fun W ρ σ G H Q tk re ok post => ?_⟩
  unfold eXf at post
  split at post
  · rename_i c' es hi
    obtain ⟨a', h1, h2⟩ := re.ex i _ hi
    generalize hx : (PyData.list (.str c' :: es)) = x at h2
    cases h2 with
    | cls h => cases hx
    | fld h g1 g2 g3 =>
      cases h
      cases hx
      split at post
      · rename_i hm
        split at post
        · rename_i d' hfl
          obtain ⟨C', m1, T1, T2⟩ := T _ hm
          rw [hc] at m1
          cases m1
          obtain ⟨v, l, r⟩ := fldD_at g2 g3 hfl
          refine wpE_of (X := Y) (pe_xfE (X := Y) hp (cls := .ref C) T1 T2 hz hf (pe_var (i := i) hN hv hd hcd) hb) ?_
          exact ⟨_, h1, rfl, rfl, _, _, v, rfl, ok.le _ _ g1, l, post v G H (Gr.refl ok) r⟩
        · exact post.elim
      · exact post.elim
  · exact post.elim
def spE (TS : TabList) (K : PySem.W.Frag) (mg : Str → Option Value) (a : Addr) (m : D → Res RV) : Sp := fun vs H Q E => ∃ G x, vs = [.ref a] ∧ XAt TS K G a x ∧ Ok0 TS G H ∧ PostF TS K mg G H (m x) Q E
structure KnownE (TS : TabList) (P : Program) (w : World) (K : PySem.W.Frag) (mg : Str → Option Value) (base : Heap) (k : Nat) (x n : Str) (m : D → Res RV) : Prop where
  ex : ∃ f fd, mg x = some (.ref f) ∧ PySem.W.keepIn K (.ref f) = true ∧ Binds K fd [n] [] ∧ ∀ (a : Addr) (oe : Obj) (C : Addr) (c : Str) (d : Option Addr), mg c = some (.ref C) → L2N.Zn (.ref C) d oe → (∃ vs, oe.data = .fields vs) →
    FnE P w K mg base (L2N.CX P w) k f fd [n] (spE (TS.exf a c d) K mg a m) (a, oe)
def frmX (n : Nat) (x : D) : Frm := Sl.own (.exc x) :: List.replicate (n - 1) Sl.emp
def defX (n : Nat) (F : Frm → Res Fl) : D → Res RV := fun x => if 0 < n then outR (F (frmX n x)) else .bad
theorem SI.startX {TS : TabList} {K : PySem.W.Frag} {G H : Hp} {a : Addr} {x : D} {N : List Str} (hN : 0 < N.length) (k : Ok0 TS G H) (h : XAt TS K G a x) : SI TS K G H (frmX N.length x) (L2.start N [.ref a]) G H (fun _ => []) := by
  cases N with
  | nil => cases hN
  | cons y N =>
    have s := SI.start (N := N) (vs := []) (ds := []) (K := K) k .nil
    have e : L2.start (y :: N) [.ref a] = some (.ref a) :: L2.start N [] := by
      unfold L2.start
      simp
    have e2 : frmX (y :: N).length x = Sl.own (.exc x) :: frm0 N.length [] := rfl
    rw [e, e2]
    refine ⟨s.gr, by rw [List.length_cons, List.length_cons, s.len], fun i d hi => ?_, fun i o hi => ?_, fun i j o u _ _ _ b hb => (nomatch hb), fun i o _ b hb => (nomatch hb)⟩
    · cases i with
      | zero => cases hi
      | succ i => exact s.val i d hi
    · cases i with
      | zero =>
        cases hi
        exact ⟨_, rfl, .exc h⟩
      | succ i => exact s.own i o hi
theorem knownE_of {TS : TabList} {P : Program} {w : World} {K : PySem.W.Frag} {mg : Str → Option Value} {base : Heap} {x n : Str} {st : Stmt} {N : List Str} {k : Nat} {F : Frm → Res Fl} (d : Dfn K mg x st [n]) (S : FnScope N [n] (defScope st)) (hN : 0 < N.length) (nd : N.Nodup)
    (body : ∀ (f : Addr) (cdv : Value) (A : Around) (outer : List Env) (s : Shared) (H : Hp) (E : XK) (a : Addr) (oe : Obj) (C : Addr) (c : Str) (dd : Option Addr), mg c = some (.ref C) → L2N.Zn (.ref C) dd oe → (∃ vs, oe.data = .fields vs) →
      CtB (cxH (L2N.CX P w) P w K mg base N x (defScope st) f cdv A outer s H E (a, oe)) (a, oe) → RoomH k (A.deeper (envOfC x (defScope st) s.heap.objs.size f cdv)) →
      DSs (TS.exf a c dd) (cxH (L2N.CX P w) P w K mg base N x (defScope st) f cdv A outer s H E (a, oe)) (defBody st) F) :
    KnownE TS P w K mg base (k + 1) x n (defX N.length F) := by
  obtain ⟨f, fd, Fn, hm, hb⟩ := d
  have kp := Fn.kp
  obtain ⟨_, _, _, _, _, _, c, _, _, rfl, lk, hcd⟩ := Fn.ex
  refine ⟨f, _, hm, kp, hb, fun a oe C c' dd hc hz hf => fn_ofE lk hcd S (fun vs H Q E h => ?_) (fun A outer s H vs Q E hot hr h => ?_)⟩
  · obtain ⟨G, y, rfl, _⟩ := h
    rfl
  · obtain ⟨G, y, rfl, hx, ok, p'⟩ := h
    unfold defX at p'
    rw [if_pos hN] at p'
    have cb : CtB (cxH (L2N.CX P w) P w K mg base N x (defScope st) f c A outer s H E (a, oe)) (a, oe) := ⟨nd, by have := hr.un; show (A.deeper _).units + 65 < _; omega, hot, List.mem_singleton.mpr rfl⟩
    refine ⟨_, pss_wp _ _, (body f c A outer s H E a oe C c' dd hc hz hf cb hr).run (fun cls d _ H => E cls d H) (frmX N.length y) (L2.start N [.ref a]) G H G H (fun _ => []) _ (takes_of rfl rfl rfl rfl) (SI.startX hN ok hx) ?_⟩
    revert p'
    generalize F (frmX N.length y) = r
    intro p'
    induction r with
    | ok fl =>
      cases fl with
      | next ρ => exact fun σ' G' H' fp' _ s' => p' .non G' H' s'.gr .non
      | ret rv => cases rv <;> exact p'
      | brk ρ => exact p'.elim
      | cont ρ => exact p'.elim
    | exc c fs => exact fun C d _ G' H' m g r => p' C d G' H' m g r
    | bad => exact p'.elim
    | alt f ih => exact fun i => ih i (p' i)
theorem KnownE.cast {TS : TabList} {P : Program} {w : World} {K : PySem.W.Frag} {mg : Str → Option Value} {base : Heap} {k : Nat} {x n : Str} {m m' : D → Res RV} (e : m' = m) (h : KnownE TS P w K mg base k x n m) : KnownE TS P w K mg base k x n m' := by
  rw [e]
  exact h
def eCallE (i : Nat) (m : D → Res RV) : En → Res D := fun ρ => match ρ[i]? with
  | some (some (.dict [(.bool false, x)])) => (match m x with
    | .ok (.val d) => .ok d
    | _ => .bad)
  | _ => .bad
theorem XAt.here {TS : TabList} {K : PySem.W.Frag} {G : Hp} {a b : Addr} {c : Str} {d : Option Addr} {x : D} (h : XAt (TS.exf a c d) K G b x) : b = a := by
  cases h with
  | cls h =>
    cases h
    rfl
  | fld h _ _ _ =>
    cases h
    rfl
theorem de_callE {TS : TabList} {Y : L2.Cx} {a C : Addr} {d : Option Addr} {oe : Obj} {pn : List (Addr × Obj)} {i : Nat} {n x y c : Str} {p p2 pos : Pos} {k k' : Nat} {m : D → Res RV} (F : KnownE TS Y.prog Y.w Y.K Y.mg Y.base k x y m) (C' : CtB (Y.suite a ((a, oe) :: pn)) (a, oe)) (hr : RoomH k' (Y.suite a ((a, oe) :: pn)).A) (hk : k ≤ k')
    (hc : Y.mg c = some (.ref C)) (hz : L2N.Zn (.ref C) d oe) (hf : ∃ vs, oe.data = .fields vs) (hg : Gl Y x) (hN : Y.N[i]? = some n) (hv : Vis Y.env.scope n)
    (hd : (n == ("__debug__" : Str)) = false := by decide) (hcd : (n == ("__classdict__" : Str)) = false := by decide) (hdb : (x == ("__debug__" : Str)) = false := by decide)
    (he : starEach [.Name n p2] Y.env = (false, eval (.Name n p2) Y.env) :: starEach [] Y.env := by rfl) (hpl : (backTo pos (starEach [] Y.env)).any (·.1) = false := by rfl) :
    DE (TS.exf a c d) (Y.suite a ((a, oe) :: pn)) (.Call (.Name x p) [.Name n p2] [] pos) (eCallE i m) := by
  refine ⟨fun W ρ σ G H Q tk re ok post => ?_⟩
  unfold eCallE at post
  split at post
  · rename_i z hi
    obtain ⟨a', h1, h2⟩ := re.ex i z hi
    cases h2.here
    obtain ⟨f, fd, hm, hkp, hb, Fn⟩ := F.ex
    refine wpE_of (X := Y.suite a ((a, oe) :: pn)) (pe_callE (X := Y.suite a ((a, oe) :: pn)) (E := fun σ => WE W σ) (Fn a oe C c d hc hz hf) (hr.mono hk) C'.hot C'.pn hg hm hkp hb (fun σ => passAt tk σ) (pa_cons (pe_var (i := i) hN hv hd hcd) pa_nil he) hdb he hpl) ?_
    refine ⟨_, h1, G, z, rfl, h2, ok, ?_⟩
    revert post
    generalize m z = r
    intro p
    cases r with
    | ok r =>
      cases r with
      | val d => exact p
      | _ => exact p.elim
    | _ => exact p.elim
  · exact post.elim
structure DStX (TS : TabList) (X : L2.Cx) (st : Stmt) (F : Frm → Res Fl) : Prop where
  run : ∀ (W : WX) (ρ : Frm) (σ : L2.St) (G_0 H_0 G H : Hp) (fp : Nat → List Addr) (D : Ends), Takes X W → SI TS X.K G_0 H_0 ρ σ G H fp → PostSx TS X W σ G_0 H_0 G H D (F ρ) → wpSt X st D σ H
def sSetP (i : Nat) (fe : En → Res D) : Frm → Res Fl := fun ρ => (fe (purE ρ)).bind fun d => .ok (.next (ρ.set i (.val d)))
def noXs : Res Fl → Res Fl
  | .ok fl => .ok fl
  | _ => .bad
def sSeqX (F1 F2 : Frm → Res Fl) : Frm → Res Fl := fun ρ => match F1 ρ with
  | .ok (.next ρ') => noXs (F2 ρ')
  | .alt _ => .bad
  | r => r
section
variable {TS : TabList} {X : L2.Cx} {e c : Expr} {fe : En → Res Pyr.D} {ft : En → Res Bool} {F F1 F2 : Frm → Res Fl} {st : Stmt} {rest b1 b2 : List Stmt} {pos : Pos}
theorem dstx_set (i : Nat) {x : Str} {pos' : Pos} (he : DE TS X e fe) (nd : X.N.Nodup) (hi : X.N[i]? = some x := by rfl) (hx : Loc X.env.scope x := by first | exact Or.inl rfl | exact Or.inr rfl) (hs : swapsWith e (some (.Name x pos')) pos.line X.env = pure false := by rfl)
    (hf : X.fn x = true ∨ X.env.scope.names.lookup x = some .local := by first | exact .inl rfl | exact .inr rfl) : DStX TS X (.Assign [.Name x pos'] e pos) (sSetP i fe) := by
  refine ⟨?_⟩
  intro W ρ σ G_0 H_0 G H fp D tk s p
  refine wpSt_of (ps_set nd hi hx (pe_wp X e) hs hf) ?_
  exact he W (purE ρ) σ G H _ tk s.pure s.gr.ok (stX p fun v d G1 H1 g r p => p _ G1 H1 fp g.g ((s.grow g).setVal r))
theorem dstx_if (hc : DT TS X c ft) (h1 : DSx TS X b1 F1) (h2 : DSx TS X b2 F2) : DStX TS X (.If c b1 b2 pos) (sIf ft F1 F2) := by
  refine ⟨?_⟩
  intro W ρ σ G_0 H_0 G H fp D tk s p
  refine wpSt_of (ps_if (pt_wp X c) (pss_wp X b1) (pss_wp X b2)) ?_
  refine hc W (frzE ρ) σ (noTb H) H _ tk s.frz (ok_noTb s.gr.ok) (stXB s.gr.ok p fun v b G1 H1 g r p => ?_)
  subst r
  have g' := gr_noTb s.gr.ok g
  cases v with
  | true => exact iteT (h1.run W ρ σ G_0 H_0 G H1 fp D tk (s.grow g') (p.shift g'))
  | false => exact iteF (h2.run W ρ σ G_0 H_0 G H1 fp D tk (s.grow g') (p.shift g'))
theorem dsx_one (h : DStX TS X st F) : DSx TS X [st] F := ⟨fun W ρ σ G_0 H_0 G H fp D tk s p => wpSs_of (pss_one (ps_wp X st)) (h.run W ρ σ G_0 H_0 G H fp D tk s p)⟩
theorem dsx_cons (h1 : DStX TS X st F1) (h2 : DSs TS X rest F2) : DSx TS X (st :: rest) (sSeqX F1 F2) := by
  refine ⟨?_⟩
  intro W ρ σ G_0 H_0 G H fp D tk s p
  refine wpSs_of (pss_cons (ps_wp X st) (pss_wp X rest)) ?_
  refine h1.run W ρ σ G_0 H_0 G H fp { D with nx := wpSs X rest D } tk s ?_
  unfold sSeqX at p
  revert p
  generalize F1 ρ = r
  intro p
  cases r with
  | ok fl =>
    cases fl with
    | next ρ' =>
      refine fun σ' G' H' fp' e s' => h2 W ρ' σ' G_0 H_0 G' H' fp' D tk s' ?_
      revert p
      show PostSx TS X W σ G_0 H_0 G H D (noXs (F2 ρ')) → _
      generalize F2 ρ' = r2
      intro p
      cases r2 with
      | ok fl => exact PostS.shift e p
      | exc c fs => exact p.elim
      | bad => exact p.elim
      | alt f => exact p.elim
    | ret r => cases r <;> exact p
    | brk ρ' => exact p
    | cont ρ' => exact p
  | exc c fs => exact p
  | bad => exact p.elim
  | alt f => exact p.elim
end
end Pyr
set_option Elab.async false
set_option autoImplicit false
set_option linter.all false
set_option maxRecDepth 100000
set_option maxHeartbeats 4000000
namespace K03
open PySem PySem.Spec PyProof.Rows L2 Evl Pyr
def topS (i : Nat) : Stmt := PySem.Challenge.pw_wishshown_k03_facts_and_databases.main.body.getD i (.Pass ⟨0, 0, 0, 0⟩)
abbrev eL (f : En → Res (List D)) : En → Res D := fun ρ => (f ρ).map .list
abbrev isTab : IsTab := [(("BadRow" : Str), ("UnknownTable" : Str), false), (("BadRow" : Str), ("BadRow" : Str), true), (("BadRow" : Str), ("NotAscending" : Str), false), (("BadRow" : Str), ("BadSize" : Str), false), (("BadRow" : Str), ("KeyBroken" : Str), false), (("BadRow" : Str), ("NotThere" : Str), false), (("BadRow" : Str), ("AlreadyThere" : Str), false), (("BadRow" : Str), ("ValueError" : Str), true), (("BadSize" : Str), ("UnknownTable" : Str), false), (("BadSize" : Str), ("BadRow" : Str), false), (("BadSize" : Str), ("NotAscending" : Str), false), (("BadSize" : Str), ("BadSize" : Str), true), (("BadSize" : Str), ("KeyBroken" : Str), false), (("BadSize" : Str), ("NotThere" : Str), false), (("BadSize" : Str), ("AlreadyThere" : Str), false), (("BadSize" : Str), ("ValueError" : Str), true), (("NotAscending" : Str), ("UnknownTable" : Str), false), (("NotAscending" : Str), ("BadRow" : Str), false), (("NotAscending" : Str), ("NotAscending" : Str), true), (("NotAscending" : Str), ("BadSize" : Str), false), (("NotAscending" : Str), ("KeyBroken" : Str), false), (("NotAscending" : Str), ("NotThere" : Str), false), (("NotAscending" : Str), ("AlreadyThere" : Str), false), (("NotAscending" : Str), ("ValueError" : Str), true), (("UnknownTable" : Str), ("UnknownTable" : Str), true), (("UnknownTable" : Str), ("BadRow" : Str), false), (("UnknownTable" : Str), ("NotAscending" : Str), false), (("UnknownTable" : Str), ("BadSize" : Str), false), (("UnknownTable" : Str), ("KeyBroken" : Str), false), (("UnknownTable" : Str), ("NotThere" : Str), false), (("UnknownTable" : Str), ("AlreadyThere" : Str), false), (("UnknownTable" : Str), ("ValueError" : Str), true), (("AlreadyThere" : Str), ("UnknownTable" : Str), false), (("AlreadyThere" : Str), ("BadRow" : Str), false), (("AlreadyThere" : Str), ("NotAscending" : Str), false), (("AlreadyThere" : Str), ("BadSize" : Str), false), (("AlreadyThere" : Str), ("KeyBroken" : Str), false), (("AlreadyThere" : Str), ("NotThere" : Str), false), (("AlreadyThere" : Str), ("AlreadyThere" : Str), true), (("AlreadyThere" : Str), ("ValueError" : Str), true), (("KeyBroken" : Str), ("UnknownTable" : Str), false), (("KeyBroken" : Str), ("BadRow" : Str), false), (("KeyBroken" : Str), ("NotAscending" : Str), false), (("KeyBroken" : Str), ("BadSize" : Str), false), (("KeyBroken" : Str), ("KeyBroken" : Str), true), (("KeyBroken" : Str), ("NotThere" : Str), false), (("KeyBroken" : Str), ("AlreadyThere" : Str), false), (("KeyBroken" : Str), ("ValueError" : Str), true), (("NotThere" : Str), ("UnknownTable" : Str), false), (("NotThere" : Str), ("BadRow" : Str), false), (("NotThere" : Str), ("NotAscending" : Str), false), (("NotThere" : Str), ("BadSize" : Str), false), (("NotThere" : Str), ("KeyBroken" : Str), false), (("NotThere" : Str), ("NotThere" : Str), true), (("NotThere" : Str), ("AlreadyThere" : Str), false), (("NotThere" : Str), ("ValueError" : Str), true)]
abbrev xfTab : List (Str × Str) := [(("KeyBroken" : Str), ("first" : Str)), (("KeyBroken" : Str), ("second" : Str)), (("NotThere" : Str), ("fact" : Str)), (("AlreadyThere" : Str), ("fact" : Str))]
abbrev mt_AlreadyThere : Stmt := metS (topS 8) 0
theorem ms_AlreadyThere : FnScope ["self", "fact"] ["self", "fact"] (defScope mt_AlreadyThere) := ⟨rfl, rfl, rfl, by decide +kernel, rfl, by decide +kernel, by decide +kernel⟩
theorem bm_AlreadyThere : BindOkM "AlreadyThere.__init__" mt_AlreadyThere ["self", "fact"] := fun _ _ _ _ _ _ us hl => match us, hl with | [_, _], _ => rfl
abbrev mt_KeyBroken : Stmt := metS (topS 6) 0
theorem ms_KeyBroken : FnScope ["self", "first", "second"] ["self", "first", "second"] (defScope mt_KeyBroken) := ⟨rfl, rfl, rfl, by decide +kernel, rfl, by decide +kernel, by decide +kernel⟩
theorem bm_KeyBroken : BindOkM "KeyBroken.__init__" mt_KeyBroken ["self", "first", "second"] := fun _ _ _ _ _ _ us hl => match us, hl with | [_, _, _], _ => rfl
abbrev mt_NotThere : Stmt := metS (topS 7) 0
theorem ms_NotThere : FnScope ["self", "fact"] ["self", "fact"] (defScope mt_NotThere) := ⟨rfl, rfl, rfl, by decide +kernel, rfl, by decide +kernel, by decide +kernel⟩
theorem bm_NotThere : BindOkM "NotThere.__init__" mt_NotThere ["self", "fact"] := fun _ _ _ _ _ _ us hl => match us, hl with | [_, _], _ => rfl
abbrev ctTab_ViewError : CtTab := [("BadRow", true), ("BadSize", true), ("NotAscending", true), ("UnknownTable", true), ("AlreadyThere", true), ("KeyBroken", true), ("NotThere", true)]
noncomputable section
variable {CL : List Addr} {P : Program} {w : World} {K : PySem.W.Frag} {mg : Str → Option Value} {base : Heap}
abbrev s__law_draws : Stmt := topS 22
abbrev N__law_draws : List Str := ["script", "count", "rests", "draws", "k", "value", "cell", "at", "mixed"]
theorem sc__law_draws : FnScope N__law_draws ["script", "count"] (defScope s__law_draws) := ⟨rfl, rfl, rfl, by decide +kernel, rfl, by decide +kernel, by decide +kernel⟩
theorem bo__law_draws : BindOk "_law_draws" s__law_draws ["script", "count"] := fun _ _ _ _ _ _ us hl => match us, hl with | [_, _], _ => rfl
def B__law_draws_0 : Frm → Res Fl := (sSeq (sSet 5 (eC (.int 0)))
  (sSeq (sIf (tE boolD (e2 gtD (eN (oneD lenD) (aC (eVar 2) a0)) (eC (.int 0)))) (sSeq (sSet 7 (e2 modD (eN (oneD int2D) (aC (eVar 4) a0)) (eN (oneD lenD) (aC (eVar 2) a0))))
  (sIf (tE boolD (e2 geD (eIxV 2 (eVar 7)) (e2 powD (eC (.int 10)) (eC (.int 18))))) (sSeq (sSet 5 (e2 modD (eN (oneD int2D) (aC (eIxV 2 (eVar 7)) a0)) (eC (.int 1000))))
  (sPut 2 (eVar 7) (e2 fdivD (eIxV 2 (eVar 7)) (eC (.int 1000))))) (sSeq (sSet 8 (e2 modD (eN (oneD int2D) (aC (e2 addD (e2 addD (e2 mul2D (eIxV 2 (eVar 7)) (eC (.int 48271))) (e2 mul2D (eVar 4) (eC (.int 69621)))) (eC (.int 11))) a0)) (eC (.int 2147483647))))
  (sSeq (sSet 8 (e2 modD (eN (oneD int2D) (aC (e2 addD (e2 mul2D (eVar 8) (eC (.int 16807))) (eVar 7)) a0)) (eC (.int 2147483629))))
  (sSet 5 (e2 modD (eN (oneD int2D) (aC (e2 fdivD (eVar 8) (eC (.int 7))) a0)) (eC (.int 1000)))))))) sNext)
  (sKill [7, 8] (sSeq (sApp 3 (eVar 5))
  (sKill [4, 5, 7, 8] sNext)))))
def T__law_draws_3 : Frm → Res Fl := (sKill [4, 5, 7, 8] (sRetO 3))
def T__law_draws_2 : Frm → Res Fl := (sKill [0, 4, 5, 6, 7, 8] (sSeq (sForR (Tg.nm 4) (iF r1D (eVar 1)) B__law_draws_0)
  T__law_draws_3))
def T__law_draws_1 : Frm → Res Fl := (sSeq (sSetL 3 (lN a0))
  T__law_draws_2)
def F__law_draws : Frm → Res Fl := (sSeq (sSetL 2 (lComp [6] (Tg.nm 6) (iF walkD (eVar 0)) tYesR (eVar 6)))
  T__law_draws_1)
noncomputable def m__law_draws : List D → Res RV := hid (defM 2 9 F__law_draws)
theorem u__law_draws : m__law_draws = defM 2 9 F__law_draws := hid_eq _
theorem kn__law_draws (z_int : mg "int" = none) (z_len : mg "len" = none) (z_range : mg "range" = none) (d : Dfn K mg "_law_draws" s__law_draws ["script", "count"]) : Known (TabList.mk CL P w) P w K mg base 1 "_law_draws" ["script", "count"] m__law_draws := Known.cast u__law_draws (known_of (F := F__law_draws) (N := N__law_draws) d sc__law_draws fun f cdv A outer s H E hr => by
  have C : CtE (cxOf (L2N.CX P w) P w K mg base N__law_draws "_law_draws" (defScope s__law_draws) f cdv A outer s H E) := ⟨rfl, sc__law_draws.nd, room_ct hr⟩
  exact (dss_cons (ds_setLc 2 C (di_any (de_var 0)) (blkOk_by (N := N__law_draws) (sc := defScope s__law_draws) (own := [("cell", 6)]) (by decide +kernel)) (by decide) (fun _ _ _ _ _ => (pg_name (i := 6) C.blk.nd rfl (by first | exact Or.inl rfl | exact Or.inr rfl))) (fun _ _ _ _ _ => dts_nil) (fun _ _ _ _ _ => (de_var 6)) (sw_true rfl rfl rfl rfl))
  (dss_cons (ds_setL 3 (dl_lst da_nil) C)
  (dss_kill [0, 4, 5, 6, 7, 8] (dss_cons (ds_forR C (passes_of rfl) (fw_range1 (by rfl) z_range (de_var 1)) (pg_name (i := 4) C.nd rfl (by first | exact Or.inl rfl | exact Or.inr rfl)) (dss_cons (ds_set 5 de_int C)
  (dss_cons (ds_if (dt_cmp od_gt (de_callB cd_len (by rfl) z_len bt_len (da_cons (de_var 2) da_nil)) de_int) (dss_cons (ds_set 7 (de_bin od_mod (de_callTy cd_int2 (by rfl) z_int bt_int (da_cons (de_var 4) da_nil)) (de_callB cd_len (by rfl) z_len bt_len (da_cons (de_var 2) da_nil))) C)
  (dss_one (ds_if (dt_cmp od_ge (de_ixV 2 (de_var 7)) (de_bin od_pow de_int de_int)) (dss_cons (ds_set 5 (de_bin od_mod (de_callTy cd_int2 (by rfl) z_int bt_int (da_cons (de_ixV 2 (de_var 7)) da_nil)) de_int) C)
  (dss_one (ds_put 2 (de_bin od_fdiv (de_ixV 2 (de_var 7)) de_int) (de_var 7)))) (dss_cons (ds_set 8 (de_bin od_mod (de_callTy cd_int2 (by rfl) z_int bt_int (da_cons (de_bin od_add (de_bin od_add (de_bin od_mul2 (de_ixV 2 (de_var 7)) de_int) (de_bin od_mul2 (de_var 4) de_int)) de_int) da_nil)) de_int) C)
  (dss_cons (ds_set 8 (de_bin od_mod (de_callTy cd_int2 (by rfl) z_int bt_int (da_cons (de_bin od_add (de_bin od_mul2 (de_var 8) de_int) (de_var 7)) da_nil)) de_int) C)
  (dss_one (ds_set 5 (de_bin od_mod (de_callTy cd_int2 (by rfl) z_int bt_int (da_cons (de_bin od_fdiv (de_var 8) de_int) da_nil)) de_int) C))))))) dss_nil)
  (dss_kill [7, 8] (dss_cons (ds_app 3 (de_var 5))
  (dss_kill [4, 5, 7, 8] dss_nil))))))
  (dss_kill [4, 5, 7, 8] (dss_one (ds_retO 3))))))))
abbrev s__law_pool : Stmt := topS 23
abbrev N__law_pool : List Str := ["first", "second", "many", "signs", "size", "text", "place", "step", "k"]
theorem sc__law_pool : FnScope N__law_pool ["first", "second", "many"] (defScope s__law_pool) := ⟨rfl, rfl, rfl, by decide +kernel, rfl, by decide +kernel, by decide +kernel⟩
theorem bo__law_pool : BindOk "_law_pool" s__law_pool ["first", "second", "many"] := fun _ _ _ _ _ _ us hl => match us, hl with | [_, _, _], _ => rfl
def T__law_pool_6 : Frm → Res Fl := (sRetL (lComp [8] (Tg.nm 8) (iF r1D (eVar 2)) tYesR (e2 addD (e2 addD (eSlice (eVar 5) oNone (oSome (eVar 6))) (e2 atD (eVar 3) (e2 modD (eN (oneD int2D) (aC (e2 addD (eVar 1) (e2 mul2D (eVar 7) (eVar 8))) a0)) (eC (.int 36))))) (eSlice (eVar 5) (oSome (eVar 6)) oNone))))
def T__law_pool_5 : Frm → Res Fl := (sSeq (sSet 7 (e2 addD (eC (.int 1)) (e2 mul2D (eC (.int 4)) (e2 modD (eN (oneD int2D) (aC (e2 fdivD (eVar 1) (eC (.int 4))) a0)) (eC (.int 2))))))
  T__law_pool_6)
def T__law_pool_4 : Frm → Res Fl := (sSeq (sSet 6 (e2 modD (eN (oneD int2D) (aC (eVar 1) a0)) (e2 addD (eVar 4) (eC (.int 1)))))
  T__law_pool_5)
def T__law_pool_3 : Frm → Res Fl := (sSeq (sSet 5 (eJoin (eC (.str "")) (eL (lComp [8] (Tg.nm 8) (iF r1D (eVar 4)) tYesR (e2 atD (eVar 3) (e2 modD (eN (oneD int2D) (aC (e2 addD (eVar 0) (e2 mul2D (e2 mul2D (eC (.int 7)) (eVar 8)) (e2 addD (eC (.int 1)) (e2 modD (eN (oneD int2D) (aC (eVar 1) a0)) (eC (.int 3)))))) a0)) (eC (.int 36))))))))
  T__law_pool_4)
def T__law_pool_2 : Frm → Res Fl := (sSeq (sIf (tE boolD (e2 eqD (e2 modD (eN (oneD int2D) (aC (eVar 0) a0)) (eC (.int 9))) (eC (.int 8)))) (sSet 4 (eC (.int 11))) sNext)
  T__law_pool_3)
def T__law_pool_1 : Frm → Res Fl := (sSeq (sSet 4 (e2 modD (eN (oneD int2D) (aC (eVar 0) a0)) (eC (.int 4))))
  T__law_pool_2)
def F__law_pool : Frm → Res Fl := (sSeq (sSet 3 (eC (.str "abcdefghijklmnopqrstuvwxyz0123456789")))
  T__law_pool_1)
noncomputable def m__law_pool : List D → Res RV := hid (defM 3 9 F__law_pool)
theorem u__law_pool : m__law_pool = defM 3 9 F__law_pool := hid_eq _
theorem kn__law_pool (z_int : mg "int" = none) (z_range : mg "range" = none) (d : Dfn K mg "_law_pool" s__law_pool ["first", "second", "many"]) : Known (TabList.mk CL P w) P w K mg base 1 "_law_pool" ["first", "second", "many"] m__law_pool := Known.cast u__law_pool (known_of (F := F__law_pool) (N := N__law_pool) d sc__law_pool fun f cdv A outer s H E hr => by
  have C : CtE (cxOf (L2N.CX P w) P w K mg base N__law_pool "_law_pool" (defScope s__law_pool) f cdv A outer s H E) := ⟨rfl, sc__law_pool.nd, room_ct hr⟩
  exact (dss_cons (ds_set 3 de_str C)
  (dss_cons (ds_set 4 (de_bin od_mod (de_callTy cd_int2 (by rfl) z_int bt_int (da_cons (de_var 0) da_nil)) de_int) C)
  (dss_cons (ds_if (dt_cmp (od_eq C) (de_bin od_mod (de_callTy cd_int2 (by rfl) z_int bt_int (da_cons (de_var 0) da_nil)) de_int) de_int) (dss_one (ds_set 4 de_int C)) dss_nil)
  (dss_cons (ds_set 5 (de_join de_str (dl_comp C (di_range1 (by rfl) z_range (de_var 4)) (blkOk_by (N := N__law_pool) (sc := defScope s__law_pool) (own := [("k", 8)]) (by decide +kernel)) (by decide) (fun _ _ _ _ _ => (pg_name (i := 8) C.blk.nd rfl (by first | exact Or.inl rfl | exact Or.inr rfl))) (fun _ _ _ _ _ => dts_nil) (fun _ _ _ _ _ => (de_ix (de_var 3) (de_bin od_mod (de_callTy cd_int2 (by rfl) z_int bt_int (da_cons (de_bin od_add (de_var 0) (de_bin od_mul2 (de_bin od_mul2 de_int (de_var 8)) (de_bin od_add de_int (de_bin od_mod (de_callTy cd_int2 (by rfl) z_int bt_int (da_cons (de_var 1) da_nil)) de_int)))) da_nil)) de_int)))).de) C)
  (dss_cons (ds_set 6 (de_bin od_mod (de_callTy cd_int2 (by rfl) z_int bt_int (da_cons (de_var 1) da_nil)) (de_bin od_add (de_var 4) de_int)) C)
  (dss_cons (ds_set 7 (de_bin od_add de_int (de_bin od_mul2 de_int (de_bin od_mod (de_callTy cd_int2 (by rfl) z_int bt_int (da_cons (de_bin od_fdiv (de_var 1) de_int) da_nil)) de_int))) C)
  (dss_one (ds_retL (dl_comp C (di_range1 (by rfl) z_range (de_var 2)) (blkOk_by (N := N__law_pool) (sc := defScope s__law_pool) (own := [("k", 8)]) (by decide +kernel)) (by decide) (fun _ _ _ _ _ => (pg_name (i := 8) C.blk.nd rfl (by first | exact Or.inl rfl | exact Or.inr rfl))) (fun _ _ _ _ _ => dts_nil) (fun _ _ _ _ _ => (de_bin od_add (de_bin od_add (de_slice (de_var 5) do_none (do_some (de_var 6))) (de_ix (de_var 3) (de_bin od_mod (de_callTy cd_int2 (by rfl) z_int bt_int (da_cons (de_bin od_add (de_var 1) (de_bin od_mul2 (de_var 7) (de_var 8))) da_nil)) de_int))) (de_slice (de_var 5) (do_some (de_var 6)) do_none)))))))))))))
abbrev s__law_schema : Stmt := topS 24
abbrev N__law_schema : List Str := ["draws", "pool", "schema", "k", "width", "key"]
theorem sc__law_schema : FnScope N__law_schema ["draws", "pool"] (defScope s__law_schema) := ⟨rfl, rfl, rfl, by decide +kernel, rfl, by decide +kernel, by decide +kernel⟩
theorem bo__law_schema : BindOk "_law_schema" s__law_schema ["draws", "pool"] := fun _ _ _ _ _ _ us hl => match us, hl with | [_, _], _ => rfl
def B__law_schema_0 : Frm → Res Fl := (sSeq (sSet 4 (e2 addD (eC (.int 1)) (e2 modD (eN (oneD int2D) (aC (e2 atD (eVar 0) (e2 addD (eC (.int 1)) (e2 mul2D (eC (.int 2)) (eVar 3)))) a0)) (eC (.int 4)))))
  (sSeq (sSet 5 (eC .none))
  (sSeq (sIf (tE boolD (e2 gtD (e2 modD (eN (oneD int2D) (aC (e2 atD (eVar 0) (e2 addD (eC (.int 2)) (e2 mul2D (eC (.int 2)) (eVar 3)))) a0)) (eC (.int 3))) (eC (.int 0)))) (sSet 5 (e2 addD (eC (.int 1)) (e2 modD (eN (oneD int2D) (aC (e2 fdivD (e2 atD (eVar 0) (e2 addD (eC (.int 2)) (e2 mul2D (eC (.int 2)) (eVar 3)))) (eC (.int 3))) a0)) (eVar 4)))) sNext)
  (sSeq (sApp 2 (eN tupD (aC (e2 atD (eVar 1) (eVar 3)) (aC (eVar 4) (aC (eVar 5) a0)))))
  (sKill [3, 4, 5] sNext)))))
def F__law_schema : Frm → Res Fl := (sSeq (sSetL 2 (lN a0))
  (sKill [3, 4, 5] (sSeq (sForR (Tg.nm 3) (iF r1D (e2 atD (eL (lN (aC (eC (.int 1)) (aC (eC (.int 2)) (aC (eC (.int 1)) (aC (eC (.int 2)) (aC (eC (.int 2)) (aC (eC (.int 3)) (aC (eC (.int 1)) (aC (eC (.int 4)) a0)))))))))) (e2 modD (eN (oneD int2D) (aC (e2 atD (eVar 0) (eC (.int 0))) a0)) (eC (.int 8))))) B__law_schema_0)
  (sKill [3, 4, 5] (sRetO 2)))))
noncomputable def m__law_schema : List D → Res RV := hid (defM 2 6 F__law_schema)
theorem u__law_schema : m__law_schema = defM 2 6 F__law_schema := hid_eq _
theorem kn__law_schema (z_int : mg "int" = none) (z_range : mg "range" = none) (d : Dfn K mg "_law_schema" s__law_schema ["draws", "pool"]) : Known (TabList.mk CL P w) P w K mg base 1 "_law_schema" ["draws", "pool"] m__law_schema := Known.cast u__law_schema (known_of (F := F__law_schema) (N := N__law_schema) d sc__law_schema fun f cdv A outer s H E hr => by
  have C : CtE (cxOf (L2N.CX P w) P w K mg base N__law_schema "_law_schema" (defScope s__law_schema) f cdv A outer s H E) := ⟨rfl, sc__law_schema.nd, room_ct hr⟩
  exact (dss_cons (ds_setL 2 (dl_lst da_nil) C)
  (dss_kill [3, 4, 5] (dss_cons (ds_forR C (passes_of rfl) (fw_range1 (by rfl) z_range (de_ix (dl_lst (da_cons de_int (da_cons de_int (da_cons de_int (da_cons de_int (da_cons de_int (da_cons de_int (da_cons de_int (da_cons de_int da_nil))))))))).de (de_bin od_mod (de_callTy cd_int2 (by rfl) z_int bt_int (da_cons (de_ix (de_var 0) de_int) da_nil)) de_int))) (pg_name (i := 3) C.nd rfl (by first | exact Or.inl rfl | exact Or.inr rfl)) (dss_cons (ds_set 4 (de_bin od_add de_int (de_bin od_mod (de_callTy cd_int2 (by rfl) z_int bt_int (da_cons (de_ix (de_var 0) (de_bin od_add de_int (de_bin od_mul2 de_int (de_var 3)))) da_nil)) de_int)) C)
  (dss_cons (ds_set 5 de_non C)
  (dss_cons (ds_if (dt_cmp od_gt (de_bin od_mod (de_callTy cd_int2 (by rfl) z_int bt_int (da_cons (de_ix (de_var 0) (de_bin od_add de_int (de_bin od_mul2 de_int (de_var 3)))) da_nil)) de_int) de_int) (dss_one (ds_set 5 (de_bin od_add de_int (de_bin od_mod (de_callTy cd_int2 (by rfl) z_int bt_int (da_cons (de_bin od_fdiv (de_ix (de_var 0) (de_bin od_add de_int (de_bin od_mul2 de_int (de_var 3)))) de_int) da_nil)) (de_var 4))) C)) dss_nil)
  (dss_cons (ds_app 2 (de_tup (da_cons (de_ix (de_var 1) (de_var 3)) (da_cons (de_var 4) (da_cons (de_var 5) da_nil)))))
  (dss_kill [3, 4, 5] dss_nil))))))
  (dss_kill [3, 4, 5] (dss_one (ds_retO 2)))))))
abbrev s__law_place : Stmt := topS 26
abbrev N__law_place : List Str := ["schema", "name", "place"]
theorem sc__law_place : FnScope N__law_place ["schema", "name"] (defScope s__law_place) := ⟨rfl, rfl, rfl, by decide +kernel, rfl, by decide +kernel, by decide +kernel⟩
theorem bo__law_place : BindOk "_law_place" s__law_place ["schema", "name"] := fun _ _ _ _ _ _ us hl => match us, hl with | [_, _], _ => rfl
def B__law_place_0 : Frm → Res Fl := (sSeq (sIf (tE boolD (e2 eqD (e2 atD (e2 atD (eVar 0) (eVar 2)) (eC (.int 0))) (eVar 1))) (sRet (eVar 2)) sNext)
  (sKill [2] sNext))
def F__law_place : Frm → Res Fl := (sKill [2] (sSeq (sForR (Tg.nm 2) (iF r1D (eN (oneD lenD) (aC (eVar 0) a0))) B__law_place_0)
  (sKill [2] (sRet (eN (oneD lenD) (aC (eVar 0) a0))))))
noncomputable def m__law_place : List D → Res RV := hid (defM 2 3 F__law_place)
theorem u__law_place : m__law_place = defM 2 3 F__law_place := hid_eq _
theorem kn__law_place (z_len : mg "len" = none) (z_range : mg "range" = none) (d : Dfn K mg "_law_place" s__law_place ["schema", "name"]) : Known (TabList.mk CL P w) P w K mg base 1 "_law_place" ["schema", "name"] m__law_place := Known.cast u__law_place (known_of (F := F__law_place) (N := N__law_place) d sc__law_place fun f cdv A outer s H E hr => by
  have C : CtE (cxOf (L2N.CX P w) P w K mg base N__law_place "_law_place" (defScope s__law_place) f cdv A outer s H E) := ⟨rfl, sc__law_place.nd, room_ct hr⟩
  exact (dss_kill [2] (dss_cons (ds_forR C (passes_of rfl) (fw_range1 (by rfl) z_range (de_callB cd_len (by rfl) z_len bt_len (da_cons (de_var 0) da_nil))) (pg_name (i := 2) C.nd rfl (by first | exact Or.inl rfl | exact Or.inr rfl)) (dss_cons (ds_if (dt_cmp (od_eq C) (de_ix (de_ix (de_var 0) (de_var 2)) de_int) (de_var 1)) (dss_one (ds_ret (de_var 2))) dss_nil)
  (dss_kill [2] dss_nil)))
  (dss_kill [2] (dss_one (ds_ret (de_callB cd_len (by rfl) z_len bt_len (da_cons (de_var 0) da_nil))))))))
abbrev s__law_ascending : Stmt := topS 27
abbrev N__law_ascending : List Str := ["schema", "facts", "found", "place", "row", "fact"]
theorem sc__law_ascending : FnScope N__law_ascending ["schema", "facts"] (defScope s__law_ascending) := ⟨rfl, rfl, rfl, by decide +kernel, rfl, by decide +kernel, by decide +kernel⟩
theorem bo__law_ascending : BindOk "_law_ascending" s__law_ascending ["schema", "facts"] := fun _ _ _ _ _ _ us hl => match us, hl with | [_, _], _ => rfl
def B__law_ascending_0 : Frm → Res Fl := (sSeq (sIf (tE boolD (e2 notInD (eN tupD (aC (e2 atD (e2 atD (eVar 0) (eVar 3)) (eC (.int 0))) (aC (eVar 4) a0))) (eVar 2))) (sApp 2 (eN tupD (aC (e2 atD (e2 atD (eVar 0) (eVar 3)) (eC (.int 0))) (aC (eVar 4) a0)))) sNext)
  (sKill [3, 4] sNext))
def F__law_ascending : Frm → Res Fl := (sSeq (sSetL 2 (lN a0))
  (sKill [3, 4, 5] (sSeq (sFor (Tg.tp [3, 4]) (iF walkD (eL (lF (oneL sortL) (aC (eL (lComp [5] (Tg.nm 5) (iF walkD (eVar 1)) tYesR (eN tupD (aC (eCall m__law_place (aC (eVar 0) (aC (e2 atD (eVar 5) (eC (.int 0))) a0))) (aC (e2 atD (eVar 5) (eC (.int 1))) a0))))) a0)))) B__law_ascending_0)
  (sKill [3, 4] (sRetO 2)))))
noncomputable def m__law_ascending : List D → Res RV := hid (defM 2 6 F__law_ascending)
theorem u__law_ascending : m__law_ascending = defM 2 6 F__law_ascending := hid_eq _
theorem kn__law_ascending (z_sorted : mg "sorted" = none) (kn__law_place : Known (TabList.mk CL P w) P w K mg base 1 "_law_place" ["schema", "name"] m__law_place) (d : Dfn K mg "_law_ascending" s__law_ascending ["schema", "facts"]) : Known (TabList.mk CL P w) P w K mg base 2 "_law_ascending" ["schema", "facts"] m__law_ascending := Known.cast u__law_ascending (known_of (F := F__law_ascending) (N := N__law_ascending) d sc__law_ascending fun f cdv A outer s H E hr => by
  have C : CtE (cxOf (L2N.CX P w) P w K mg base N__law_ascending "_law_ascending" (defScope s__law_ascending) f cdv A outer s H E) := ⟨rfl, sc__law_ascending.nd, room_ct hr⟩
  exact (dss_cons (ds_setL 2 (dl_lst da_nil) C)
  (dss_kill [3, 4, 5] (dss_cons (ds_for C (passes_of rfl) (di_any (dl_callB (cl_sorted C) (by rfl) z_sorted bt_sorted (da_cons (dl_comp C (di_any (de_var 1)) (blkOk_by (N := N__law_ascending) (sc := defScope s__law_ascending) (own := [("fact", 5)]) (by decide +kernel)) (by decide) (fun _ _ _ _ _ => (pg_name (i := 5) C.blk.nd rfl (by first | exact Or.inl rfl | exact Or.inr rfl))) (fun _ _ _ _ _ => dts_nil) (fun _ _ _ _ _ => (de_tup (da_cons (de_call kn__law_place hr (by decide) (by rfl) (da_cons (de_var 0) (da_cons (de_ix (de_var 5) de_int) da_nil))) (da_cons (de_ix (de_var 5) de_int) da_nil))))).de da_nil)).de) (pg_tup C.calm (pgs_cons (pg_name (i := 3) C.nd rfl (by first | exact Or.inl rfl | exact Or.inr rfl)) (pgs_cons (pg_name (i := 4) C.nd rfl (by first | exact Or.inl rfl | exact Or.inr rfl)) pgs_nil))) (dss_cons (ds_if (dt_cmp (od_notIn C) (de_tup (da_cons (de_ix (de_ix (de_var 0) (de_var 3)) de_int) (da_cons (de_var 4) da_nil))) (de_var 2)) (dss_one (ds_app 2 (de_tup (da_cons (de_ix (de_ix (de_var 0) (de_var 3)) de_int) (da_cons (de_var 4) da_nil))))) dss_nil)
  (dss_kill [3, 4] dss_nil)))
  (dss_kill [3, 4] (dss_one (ds_retO 2)))))))
abbrev s__law_fact : Stmt := topS 28
abbrev N__law_fact : List Str := ["schema", "words", "draws", "table", "k"]
theorem sc__law_fact : FnScope N__law_fact ["schema", "words", "draws"] (defScope s__law_fact) := ⟨rfl, rfl, rfl, by decide +kernel, rfl, by decide +kernel, by decide +kernel⟩
theorem bo__law_fact : BindOk "_law_fact" s__law_fact ["schema", "words", "draws"] := fun _ _ _ _ _ _ us hl => match us, hl with | [_, _, _], _ => rfl
def F__law_fact : Frm → Res Fl := (sSeq (sSet 3 (e2 atD (eVar 0) (e2 modD (eN (oneD int2D) (aC (e2 atD (eVar 2) (eC (.int 0))) a0)) (eN (oneD lenD) (aC (eVar 0) a0)))))
  (sRet (eN tupD (aC (e2 atD (eVar 3) (eC (.int 0))) (aC (eN (oneD fun d => (itemsD d).map .tuple) (aC (eL (lComp [4] (Tg.nm 4) (iF r1D (e2 atD (eVar 3) (eC (.int 1)))) tYesR (e2 atD (eVar 1) (e2 modD (eN (oneD int2D) (aC (e2 atD (eVar 2) (e2 addD (eC (.int 1)) (eVar 4))) a0)) (eN (oneD lenD) (aC (eVar 1) a0)))))) a0)) a0)))))
noncomputable def m__law_fact : List D → Res RV := hid (defM 3 5 F__law_fact)
theorem u__law_fact : m__law_fact = defM 3 5 F__law_fact := hid_eq _
theorem kn__law_fact (z_int : mg "int" = none) (z_len : mg "len" = none) (z_range : mg "range" = none) (z_tuple : mg "tuple" = none) (d : Dfn K mg "_law_fact" s__law_fact ["schema", "words", "draws"]) : Known (TabList.mk CL P w) P w K mg base 1 "_law_fact" ["schema", "words", "draws"] m__law_fact := Known.cast u__law_fact (known_of (F := F__law_fact) (N := N__law_fact) d sc__law_fact fun f cdv A outer s H E hr => by
  have C : CtE (cxOf (L2N.CX P w) P w K mg base N__law_fact "_law_fact" (defScope s__law_fact) f cdv A outer s H E) := ⟨rfl, sc__law_fact.nd, room_ct hr⟩
  exact (dss_cons (ds_set 3 (de_ix (de_var 0) (de_bin od_mod (de_callTy cd_int2 (by rfl) z_int bt_int (da_cons (de_ix (de_var 2) de_int) da_nil)) (de_callB cd_len (by rfl) z_len bt_len (da_cons (de_var 0) da_nil)))) C)
  (dss_one (ds_ret (de_tup (da_cons (de_ix (de_var 3) de_int) (da_cons (de_callTy cd_tuple (by rfl) z_tuple bt_tuple (da_cons (dl_comp C (di_range1 (by rfl) z_range (de_ix (de_var 3) de_int)) (blkOk_by (N := N__law_fact) (sc := defScope s__law_fact) (own := [("k", 4)]) (by decide +kernel)) (by decide) (fun _ _ _ _ _ => (pg_name (i := 4) C.blk.nd rfl (by first | exact Or.inl rfl | exact Or.inr rfl))) (fun _ _ _ _ _ => dts_nil) (fun _ _ _ _ _ => (de_ix (de_var 1) (de_bin od_mod (de_callTy cd_int2 (by rfl) z_int bt_int (da_cons (de_ix (de_var 2) (de_bin od_add de_int (de_var 4))) da_nil)) (de_callB cd_len (by rfl) z_len bt_len (da_cons (de_var 1) da_nil)))))).de da_nil)) da_nil)))))))
abbrev s__law_facts : Stmt := topS 29
abbrev N__law_facts : List Str := ["schema", "words", "draws", "many", "k"]
theorem sc__law_facts : FnScope N__law_facts ["schema", "words", "draws", "many"] (defScope s__law_facts) := ⟨rfl, rfl, rfl, by decide +kernel, rfl, by decide +kernel, by decide +kernel⟩
theorem bo__law_facts : BindOk "_law_facts" s__law_facts ["schema", "words", "draws", "many"] := fun _ _ _ _ _ _ us hl => match us, hl with | [_, _, _, _], _ => rfl
def F__law_facts : Frm → Res Fl := (sRetL (lComp [4] (Tg.nm 4) (iF r1D (eVar 3)) tYesR (eCall m__law_fact (aC (eVar 0) (aC (eVar 1) (aC (eSlice (eVar 2) (oSome (e2 mul2D (eC (.int 5)) (eVar 4))) (oSome (e2 addD (e2 mul2D (eC (.int 5)) (eVar 4)) (eC (.int 5))))) a0))))))
noncomputable def m__law_facts : List D → Res RV := hid (defM 4 5 F__law_facts)
theorem u__law_facts : m__law_facts = defM 4 5 F__law_facts := hid_eq _
theorem kn__law_facts (z_range : mg "range" = none) (kn__law_fact : Known (TabList.mk CL P w) P w K mg base 1 "_law_fact" ["schema", "words", "draws"] m__law_fact) (d : Dfn K mg "_law_facts" s__law_facts ["schema", "words", "draws", "many"]) : Known (TabList.mk CL P w) P w K mg base 2 "_law_facts" ["schema", "words", "draws", "many"] m__law_facts := Known.cast u__law_facts (known_of (F := F__law_facts) (N := N__law_facts) d sc__law_facts fun f cdv A outer s H E hr => by
  have C : CtE (cxOf (L2N.CX P w) P w K mg base N__law_facts "_law_facts" (defScope s__law_facts) f cdv A outer s H E) := ⟨rfl, sc__law_facts.nd, room_ct hr⟩
  exact (dss_one (ds_retL (dl_comp C (di_range1 (by rfl) z_range (de_var 3)) (blkOk_by (N := N__law_facts) (sc := defScope s__law_facts) (own := [("k", 4)]) (by decide +kernel)) (by decide) (fun _ _ _ _ _ => (pg_name (i := 4) C.blk.nd rfl (by first | exact Or.inl rfl | exact Or.inr rfl))) (fun _ _ _ _ _ => dts_nil) (fun _ _ _ _ _ => (de_call kn__law_fact hr (by decide) (by rfl) (da_cons (de_var 0) (da_cons (de_var 1) (da_cons (de_slice (de_var 2) (do_some (de_bin od_mul2 de_int (de_var 4))) (do_some (de_bin od_add (de_bin od_mul2 de_int (de_var 4)) de_int))) da_nil)))))))))
abbrev s__law_spoilt : Stmt := topS 31
abbrev N__law_spoilt : List Str := ["schema", "words", "facts", "draws", "spoilt", "kind", "at", "name", "row"]
theorem sc__law_spoilt : FnScope N__law_spoilt ["schema", "words", "facts", "draws"] (defScope s__law_spoilt) := ⟨rfl, rfl, rfl, by decide +kernel, rfl, by decide +kernel, by decide +kernel⟩
theorem bo__law_spoilt : BindOk "_law_spoilt" s__law_spoilt ["schema", "words", "facts", "draws"] := fun _ _ _ _ _ _ us hl => match us, hl with | [_, _, _, _], _ => rfl
def T__law_spoilt_6 : Frm → Res Fl := (sRetO 4)
def T__law_spoilt_5 : Frm → Res Fl := (sSeq (sIf (tE boolD (e2 eqD (eVar 5) (eC (.int 0)))) (sPut 4 (eVar 6) (eN tupD (aC (e2 atD (eL (lN (aC (e2 addD (e2 atD (e2 atD (eVar 0) (eC (.int 0))) (eC (.int 0))) (eC (.str "q"))) (aC (eC .none) a0)))) (e2 modD (eN (oneD int2D) (aC (e2 atD (eVar 3) (eC (.int 2))) a0)) (eC (.int 2)))) (aC (eVar 8) a0)))) (sIf (tE boolD (e2 eqD (eVar 5) (eC (.int 1)))) (sPut 4 (eVar 6) (eN tupD (aC (eVar 7) (aC (e2 atD (eL (lN (aC (e2 addD (eVar 8) (eN tupD (aC (e2 atD (eVar 1) (eC (.int 0))) a0))) (aC (eSlice (eVar 8) (oSome (eC (.int 1))) oNone) (aC (eN tupD a0) a0))))) (e2 modD (eN (oneD int2D) (aC (e2 atD (eVar 3) (eC (.int 2))) a0)) (eC (.int 3)))) a0)))) (sIf (tE boolD (e2 eqD (eVar 5) (eC (.int 2)))) (sPut 4 (eVar 6) (eN tupD (aC (eVar 7) (aC (e2 addD (eSlice (eVar 8) (oSome (eC (.int 1))) oNone) (eN tupD (aC (e2 atD (eL (lN (aC (eC (.str "")) (aC (eC (.str "B")) (aC (eC (.str "a b")) (aC (eC (.int 5)) (aC (eC .none) a0))))))) (e2 modD (eN (oneD int2D) (aC (e2 atD (eVar 3) (eC (.int 2))) a0)) (eC (.int 5)))) a0))) a0)))) (sIf (tE boolD (e2 eqD (eVar 5) (eC (.int 3)))) (sIns 4 (eVar 6) (e2 atD (eVar 2) (eVar 6))) (sPut 4 (eVar 6) (e2 atD (eVar 2) (e2 subD (e2 subD (eN (oneD lenD) (aC (eVar 2) a0)) (eC (.int 1))) (eVar 6))))))))
  T__law_spoilt_6)
def T__law_spoilt_4 : Frm → Res Fl := (sSeq (sSetT (Tg.tp [7, 8]) (e2 atD (eVar 2) (eVar 6)))
  T__law_spoilt_5)
def T__law_spoilt_3 : Frm → Res Fl := (sSeq (sSet 6 (e2 modD (eN (oneD int2D) (aC (e2 atD (eVar 3) (eC (.int 1))) a0)) (eN (oneD lenD) (aC (eVar 2) a0))))
  T__law_spoilt_4)
def T__law_spoilt_2 : Frm → Res Fl := (sSeq (sIf (tOrR (tE boolD (e2 gtD (eVar 5) (eC (.int 4)))) (tE boolD (e2 eqD (eN (oneD lenD) (aC (eVar 2) a0)) (eC (.int 0))))) (sRetO 4) sNext)
  T__law_spoilt_3)
def T__law_spoilt_1 : Frm → Res Fl := (sSeq (sSet 5 (e2 modD (eN (oneD int2D) (aC (e2 atD (eVar 3) (eC (.int 0))) a0)) (eC (.int 8))))
  T__law_spoilt_2)
def F__law_spoilt : Frm → Res Fl := (sSeq (sSetL 4 (lF (oneL itemsD) (aC (eVar 2) a0)))
  T__law_spoilt_1)
noncomputable def m__law_spoilt : List D → Res RV := hid (defM 4 9 F__law_spoilt)
theorem u__law_spoilt : m__law_spoilt = defM 4 9 F__law_spoilt := hid_eq _
theorem kn__law_spoilt (z_int : mg "int" = none) (z_len : mg "len" = none) (z_list : mg "list" = none) (d : Dfn K mg "_law_spoilt" s__law_spoilt ["schema", "words", "facts", "draws"]) : Known (TabList.mk CL P w) P w K mg base 1 "_law_spoilt" ["schema", "words", "facts", "draws"] m__law_spoilt := Known.cast u__law_spoilt (known_of (F := F__law_spoilt) (N := N__law_spoilt) d sc__law_spoilt fun f cdv A outer s H E hr => by
  have C : CtE (cxOf (L2N.CX P w) P w K mg base N__law_spoilt "_law_spoilt" (defScope s__law_spoilt) f cdv A outer s H E) := ⟨rfl, sc__law_spoilt.nd, room_ct hr⟩
  exact (dss_cons (ds_setL 4 (dl_callTy cl_list (by rfl) z_list bt_list (da_cons (de_var 2) da_nil)) C)
  (dss_cons (ds_set 5 (de_bin od_mod (de_callTy cd_int2 (by rfl) z_int bt_int (da_cons (de_ix (de_var 3) de_int) da_nil)) de_int) C)
  (dss_cons (ds_if (dw_or (dt_cmp od_gt (de_var 5) de_int) (dw_or1 (dt_cmp (od_eq C) (de_callB cd_len (by rfl) z_len bt_len (da_cons (de_var 2) da_nil)) de_int))).dt (dss_one (ds_retO 4)) dss_nil)
  (dss_cons (ds_set 6 (de_bin od_mod (de_callTy cd_int2 (by rfl) z_int bt_int (da_cons (de_ix (de_var 3) de_int) da_nil)) (de_callB cd_len (by rfl) z_len bt_len (da_cons (de_var 2) da_nil))) C)
  (dss_cons (ds_setT (de_ix (de_var 2) (de_var 6)) (pg_tup C.calm (pgs_cons (pg_name (i := 7) C.nd rfl (by first | exact Or.inl rfl | exact Or.inr rfl)) (pgs_cons (pg_name (i := 8) C.nd rfl (by first | exact Or.inl rfl | exact Or.inr rfl)) pgs_nil))))
  (dss_cons (ds_if (dt_cmp (od_eq C) (de_var 5) de_int) (dss_one (ds_put 4 (de_tup (da_cons (de_ix (dl_lst (da_cons (de_bin od_add (de_ix (de_ix (de_var 0) de_int) de_int) de_str) (da_cons de_non da_nil))).de (de_bin od_mod (de_callTy cd_int2 (by rfl) z_int bt_int (da_cons (de_ix (de_var 3) de_int) da_nil)) de_int)) (da_cons (de_var 8) da_nil))) (de_var 6))) (dss_one (ds_if (dt_cmp (od_eq C) (de_var 5) de_int) (dss_one (ds_put 4 (de_tup (da_cons (de_var 7) (da_cons (de_ix (dl_lst (da_cons (de_bin od_add (de_var 8) (de_tup (da_cons (de_ix (de_var 1) de_int) da_nil))) (da_cons (de_slice (de_var 8) (do_some de_int) do_none) (da_cons (de_tup da_nil) da_nil)))).de (de_bin od_mod (de_callTy cd_int2 (by rfl) z_int bt_int (da_cons (de_ix (de_var 3) de_int) da_nil)) de_int)) da_nil))) (de_var 6))) (dss_one (ds_if (dt_cmp (od_eq C) (de_var 5) de_int) (dss_one (ds_put 4 (de_tup (da_cons (de_var 7) (da_cons (de_bin od_add (de_slice (de_var 8) (do_some de_int) do_none) (de_tup (da_cons (de_ix (dl_lst (da_cons de_str (da_cons de_str (da_cons de_str (da_cons de_int (da_cons de_non da_nil)))))).de (de_bin od_mod (de_callTy cd_int2 (by rfl) z_int bt_int (da_cons (de_ix (de_var 3) de_int) da_nil)) de_int)) da_nil))) da_nil))) (de_var 6))) (dss_one (ds_if (dt_cmp (od_eq C) (de_var 5) de_int) (dss_one (ds_ins 4 (de_var 6) (de_ix (de_var 2) (de_var 6)))) (dss_one (ds_put 4 (de_ix (de_var 2) (de_bin od_sub (de_bin od_sub (de_callB cd_len (by rfl) z_len bt_len (da_cons (de_var 2) da_nil)) de_int) (de_var 6))) (de_var 6))))))))))
  (dss_one (ds_retO 4)))))))))
abbrev s_place_of : Stmt := topS 14
abbrev N_place_of : List Str := ["schema", "name", "place", "table"]
theorem sc_place_of : FnScope N_place_of ["schema", "name"] (defScope s_place_of) := ⟨rfl, rfl, rfl, by decide +kernel, rfl, by decide +kernel, by decide +kernel⟩
theorem bo_place_of : BindOk "place_of" s_place_of ["schema", "name"] := fun _ _ _ _ _ _ us hl => match us, hl with | [_, _], _ => rfl
def B_place_of_0 : Frm → Res Fl := (sSeq (sIf (tE boolD (e2 eqD (e2 atD (eVar 3) (eC (.int 0))) (eVar 1))) (sRet (eVar 2)) sNext)
  (sKill [2, 3] sNext))
def F_place_of : Frm → Res Fl := (sKill [2, 3] (sSeq (sFor (Tg.tp [2, 3]) (iF enumD (eVar 0)) B_place_of_0)
  (sKill [2, 3] (sRet (eC .none)))))
noncomputable def m_place_of : List D → Res RV := hid (defM 2 4 F_place_of)
theorem u_place_of : m_place_of = defM 2 4 F_place_of := hid_eq _
theorem kn_place_of (z_enumerate : mg "enumerate" = none) (d : Dfn K mg "place_of" s_place_of ["schema", "name"]) : Known (TabList.mk CL P w) P w K mg base 1 "place_of" ["schema", "name"] m_place_of := Known.cast u_place_of (known_of (F := F_place_of) (N := N_place_of) d sc_place_of fun f cdv A outer s H E hr => by
  have C : CtE (cxOf (L2N.CX P w) P w K mg base N_place_of "place_of" (defScope s_place_of) f cdv A outer s H E) := ⟨rfl, sc_place_of.nd, room_ct hr⟩
  exact (dss_kill [2, 3] (dss_cons (ds_for C (passes_of rfl) (di_enum (by rfl) z_enumerate (de_var 0)) (pg_tup C.calm (pgs_cons (pg_name (i := 2) C.nd rfl (by first | exact Or.inl rfl | exact Or.inr rfl)) (pgs_cons (pg_name (i := 3) C.nd rfl (by first | exact Or.inl rfl | exact Or.inr rfl)) pgs_nil))) (dss_cons (ds_if (dt_cmp (od_eq C) (de_ix (de_var 3) de_int) (de_var 1)) (dss_one (ds_ret (de_var 2))) dss_nil)
  (dss_kill [2, 3] dss_nil)))
  (dss_kill [2, 3] (dss_one (ds_ret de_non))))))
abbrev s_is_word : Stmt := topS 13
abbrev N_is_word : List Str := ["value", "letter"]
theorem sc_is_word : FnScope N_is_word ["value"] (defScope s_is_word) := ⟨rfl, rfl, rfl, by decide +kernel, rfl, by decide +kernel, by decide +kernel⟩
theorem bo_is_word : BindOk "is_word" s_is_word ["value"] := fun _ _ _ _ _ _ us hl => match us, hl with | [_], _ => rfl
def F_is_word : Frm → Res Fl := (sSeq (sIf (tOrR (tNotR (tE truD (e1 (isiD "str") (eVar 0)))) (tNotR (tE boolD (eChain leD leD (eC (.int 1)) (eN (oneD lenD) (aC (eVar 0) a0)) (eC (.int 12)))))) (sRet (eC (.bool false))) sNext)
  (sRet (eGx true [1] (Tg.nm 1) (iF walkD (eVar 0)) tYesR (e2 inD (eVar 1) (eC (.str "abcdefghijklmnopqrstuvwxyz0123456789"))))))
noncomputable def m_is_word : List D → Res RV := hid (defM 1 2 F_is_word)
theorem u_is_word : m_is_word = defM 1 2 F_is_word := hid_eq _
theorem kn_is_word {c Pt : Addr} (tb : GxR.TabB base mg c Pt) (hPT : Pt ∈ TabList.mk CL P w) (z_all : mg "all" = none) (z_isinstance : mg "isinstance" = none) (z_len : mg "len" = none) (z_str : mg "str" = none) (g_LETTERS : ∃ t, mg "LETTERS" = some (.str "abcdefghijklmnopqrstuvwxyz0123456789" t)) (g_MOST_LETTERS : ∃ t, mg "MOST_LETTERS" = some (.int 12 t)) (d : DfnC K mg "is_word" s_is_word ["value"] (.ref c)) : Known (TabList.mk CL P w) P w K mg base 2 "is_word" ["value"] m_is_word := Known.cast u_is_word (known_ofC (F := F_is_word) (N := N_is_word) d sc_is_word fun f A outer s H E hr => by
  have C : CtE (cxOf (L2N.CX P w) P w K mg base N_is_word "is_word" (defScope s_is_word) f (.ref c) A outer s H E) := ⟨rfl, sc_is_word.nd, room_ct hr⟩
  exact (dss_cons (ds_if (dw_or (dt_not (dt_tru (de_isi kit_str (by rfl) z_isinstance (by rfl) z_str bt_str (de_var 0)))) (dw_or1 (dt_not (dt_chain od_le od_le de_int (de_callB cd_len (by rfl) z_len bt_len (da_cons (de_var 0) da_nil)) (de_gint g_MOST_LETTERS (by rfl)))))).dt (dss_one (ds_ret de_bl)) dss_nil)
  (dss_one (ds_ret (de_gx_all (k := 0) C (hr.mono (by decide)) (by rfl) z_all tb hPT rfl (di_any (de_var 0)) (blkOk_by (N := N_is_word) (sc := defScope s_is_word) (own := [("letter", 1)]) (by decide +kernel)) (by decide) (by decide +kernel) rfl rfl (show (Str.ofString ".0") ∉ N_is_word by decide +kernel) (fun _ _ _ _ _ _ _ _ h1 => (pg_name (i := 1) (C.gx h1).nd rfl (by first | exact Or.inl rfl | exact Or.inr rfl))) (fun _ _ _ _ _ _ _ _ h1 => dts_nil) (fun _ _ _ _ _ _ _ _ h1 => (de_cmp (od_in (C.gx h1)) (de_var 1) (de_gstr g_LETTERS (by rfl)))))))))
abbrev s_is_row : Stmt := topS 15
abbrev N_is_row : List Str := ["value", "width", "word"]
theorem sc_is_row : FnScope N_is_row ["value", "width"] (defScope s_is_row) := ⟨rfl, rfl, rfl, by decide +kernel, rfl, by decide +kernel, by decide +kernel⟩
theorem bo_is_row : BindOk "is_row" s_is_row ["value", "width"] := fun _ _ _ _ _ _ us hl => match us, hl with | [_, _], _ => rfl
def F_is_row : Frm → Res Fl := (sRet (eAnd (e2 eqD (eN (oneD lenD) (aC (eVar 0) a0)) (eVar 1)) (eGx true [2] (Tg.nm 2) (iF walkD (eVar 0)) tYesR (eCall m_is_word (aC (eVar 2) a0)))))
noncomputable def m_is_row : List D → Res RV := hid (defM 2 3 F_is_row)
theorem u_is_row : m_is_row = defM 2 3 F_is_row := hid_eq _
theorem kn_is_row {c Pt : Addr} (tb : GxR.TabB base mg c Pt) (hPT : Pt ∈ TabList.mk CL P w) (z_all : mg "all" = none) (z_len : mg "len" = none) (kn_is_word : Known (TabList.mk CL P w) P w K mg base 2 "is_word" ["value"] m_is_word) (d : DfnC K mg "is_row" s_is_row ["value", "width"] (.ref c)) : Known (TabList.mk CL P w) P w K mg base 4 "is_row" ["value", "width"] m_is_row := Known.cast u_is_row (known_ofC (F := F_is_row) (N := N_is_row) d sc_is_row fun f A outer s H E hr => by
  have C : CtE (cxOf (L2N.CX P w) P w K mg base N_is_row "is_row" (defScope s_is_row) f (.ref c) A outer s H E) := ⟨rfl, sc_is_row.nd, room_ct hr⟩
  exact (dss_one (ds_ret (de_and (de_cmp (od_eq C) (de_callB cd_len (by rfl) z_len bt_len (da_cons (de_var 0) da_nil)) (de_var 1)) (de_one (de_gx_all (k := 2) C (hr.mono (by decide)) (by rfl) z_all tb hPT rfl (di_any (de_var 0)) (blkOk_by (N := N_is_row) (sc := defScope s_is_row) (own := [("word", 2)]) (by decide +kernel)) (by decide) (by decide +kernel) rfl rfl (show (Str.ofString ".0") ∉ N_is_row by decide +kernel) (fun _ _ _ _ _ _ _ _ h1 => (pg_name (i := 2) (C.gx h1).nd rfl (by first | exact Or.inl rfl | exact Or.inr rfl))) (fun _ _ _ _ _ _ _ _ h1 => dts_nil) (fun _ _ _ _ _ _ _ _ h1 => (de_call kn_is_word h1 (by decide) (by rfl) (da_cons (de_var 2) da_nil)))))))))
abbrev s_check_facts : Stmt := topS 16
abbrev N_check_facts : List Str := ["schema", "facts", "before", "name", "row", "place"]
theorem sc_check_facts : FnScope N_check_facts ["schema", "facts"] (defScope s_check_facts) := ⟨rfl, rfl, rfl, by decide +kernel, rfl, by decide +kernel, by decide +kernel⟩
theorem bo_check_facts : BindOk "check_facts" s_check_facts ["schema", "facts"] := fun _ _ _ _ _ _ us hl => match us, hl with | [_, _], _ => rfl
def B_check_facts_0 : Frm → Res Fl := (sSeq (sSet 5 (eCall m_place_of (aC (eVar 0) (aC (eVar 3) a0))))
  (sSeq (sIf (tE boolD (e2 isBD (eVar 5) (eC .none))) (sRaise "UnknownTable") sNext)
  (sSeq (sIf (tNotR (tE truD (eCall m_is_row (aC (eVar 4) (aC (e2 atD (e2 atD (eVar 0) (eVar 5)) (eC (.int 1))) a0))))) (sRaise "BadRow") sNext)
  (sSeq (sIf (tAndR (tE boolD (e2 notBD (eVar 2) (eC .none))) (tE boolD (e2 leTD (eN tupD (aC (eVar 5) (aC (eVar 4) a0))) (eVar 2)))) (sRaise "NotAscending") sNext)
  (sSeq (sSet 2 (eN tupD (aC (eVar 5) (aC (eVar 4) a0))))
  (sKill [3, 4, 5] sNext))))))
def F_check_facts : Frm → Res Fl := (sSeq (sSet 2 (eC .none))
  (sKill [3, 4, 5] (sFor (Tg.tp [3, 4]) (iF walkD (eVar 1)) B_check_facts_0)))
noncomputable def m_check_facts : List D → Res RV := hid (defM 2 6 F_check_facts)
theorem u_check_facts : m_check_facts = defM 2 6 F_check_facts := hid_eq _
theorem kn_check_facts (kn_is_row : Known (TabList.mk CL P w) P w K mg base 4 "is_row" ["value", "width"] m_is_row) (kn_place_of : Known (TabList.mk CL P w) P w K mg base 1 "place_of" ["schema", "name"] m_place_of) (kx_BadRow : ∃ C, ExcC K mg "BadRow" C) (kx_NotAscending : ∃ C, ExcC K mg "NotAscending" C) (kx_UnknownTable : ∃ C, ExcC K mg "UnknownTable" C) (d : Dfn K mg "check_facts" s_check_facts ["schema", "facts"]) : Known (TabList.mk CL P w) P w K mg base 5 "check_facts" ["schema", "facts"] m_check_facts := Known.cast u_check_facts (known_of (F := F_check_facts) (N := N_check_facts) d sc_check_facts fun f cdv A outer s H E hr => by
  have C : CtE (cxOf (L2N.CX P w) P w K mg base N_check_facts "check_facts" (defScope s_check_facts) f cdv A outer s H E) := ⟨rfl, sc_check_facts.nd, room_ct hr⟩
  exact (dss_cons (ds_set 2 de_non C)
  (dss_kill [3, 4, 5] (dss_one (ds_for C (passes_of rfl) (di_any (de_var 1)) (pg_tup C.calm (pgs_cons (pg_name (i := 3) C.nd rfl (by first | exact Or.inl rfl | exact Or.inr rfl)) (pgs_cons (pg_name (i := 4) C.nd rfl (by first | exact Or.inl rfl | exact Or.inr rfl)) pgs_nil))) (dss_cons (ds_set 5 (de_call kn_place_of hr (by decide) (by rfl) (da_cons (de_var 0) (da_cons (de_var 3) da_nil))) C)
  (dss_cons (ds_if (dt_cmp od_isB (de_var 5) de_non) (dss_one (ds_raise0 C kx_UnknownTable (by rfl))) dss_nil)
  (dss_cons (ds_if (dt_not (dt_tru (de_call kn_is_row hr (by decide) (by rfl) (da_cons (de_var 4) (da_cons (de_ix (de_ix (de_var 0) (de_var 5)) de_int) da_nil))))) (dss_one (ds_raise0 C kx_BadRow (by rfl))) dss_nil)
  (dss_cons (ds_if (dw_and (dt_cmp od_notB (de_var 2) de_non) (dw_and1 (dt_cmp (od_leT C) (de_tup (da_cons (de_var 5) (da_cons (de_var 4) da_nil))) (de_var 2)))).dt (dss_one (ds_raise0 C kx_NotAscending (by rfl))) dss_nil)
  (dss_cons (ds_set 2 (de_tup (da_cons (de_var 5) (da_cons (de_var 4) da_nil))) C)
  (dss_kill [3, 4, 5] dss_nil)))))))))))
abbrev s_key_of : Stmt := topS 19
abbrev N_key_of : List Str := ["schema", "fact", "key", "name", "row"]
theorem sc_key_of : FnScope N_key_of ["schema", "fact"] (defScope s_key_of) := ⟨rfl, rfl, rfl, by decide +kernel, rfl, by decide +kernel, by decide +kernel⟩
theorem bo_key_of : BindOk "key_of" s_key_of ["schema", "fact"] := fun _ _ _ _ _ _ us hl => match us, hl with | [_, _], _ => rfl
def F_key_of : Frm → Res Fl := (sSeq (sSetT (Tg.tp [3, 4]) (eVar 1))
  (sSeq (sSet 2 (e2 atD (e2 atD (eVar 0) (eCall m_place_of (aC (eVar 0) (aC (eVar 3) a0)))) (eC (.int 2))))
  (sRet (eIf (tE boolD (e2 isBD (eVar 2) (eC .none))) (eC .none) (eN tupD (aC (eVar 3) (aC (eSlice (eVar 4) oNone (oSome (eVar 2))) a0)))))))
noncomputable def m_key_of : List D → Res RV := hid (defM 2 5 F_key_of)
theorem u_key_of : m_key_of = defM 2 5 F_key_of := hid_eq _
theorem kn_key_of (kn_place_of : Known (TabList.mk CL P w) P w K mg base 1 "place_of" ["schema", "name"] m_place_of) (d : Dfn K mg "key_of" s_key_of ["schema", "fact"]) : Known (TabList.mk CL P w) P w K mg base 2 "key_of" ["schema", "fact"] m_key_of := Known.cast u_key_of (known_of (F := F_key_of) (N := N_key_of) d sc_key_of fun f cdv A outer s H E hr => by
  have C : CtE (cxOf (L2N.CX P w) P w K mg base N_key_of "key_of" (defScope s_key_of) f cdv A outer s H E) := ⟨rfl, sc_key_of.nd, room_ct hr⟩
  exact (dss_cons (ds_setT (de_var 1) (pg_tup C.calm (pgs_cons (pg_name (i := 3) C.nd rfl (by first | exact Or.inl rfl | exact Or.inr rfl)) (pgs_cons (pg_name (i := 4) C.nd rfl (by first | exact Or.inl rfl | exact Or.inr rfl)) pgs_nil))))
  (dss_cons (ds_set 2 (de_ix (de_ix (de_var 0) (de_call kn_place_of hr (by decide) (by rfl) (da_cons (de_var 0) (da_cons (de_var 3) da_nil)))) de_int) C)
  (dss_one (ds_ret (de_if (dt_cmp od_isB (de_var 2) de_non) de_non (de_tup (da_cons (de_var 3) (da_cons (de_slice (de_var 4) do_none (do_some (de_var 2))) da_nil)))))))))
abbrev s_key_clashes : Stmt := topS 20
abbrev N_key_clashes : List Str := ["schema", "facts", "earliest", "clashes", "fact", "key"]
theorem sc_key_clashes : FnScope N_key_clashes ["schema", "facts"] (defScope s_key_clashes) := ⟨rfl, rfl, rfl, by decide +kernel, rfl, by decide +kernel, by decide +kernel⟩
theorem bo_key_clashes : BindOk "key_clashes" s_key_clashes ["schema", "facts"] := fun _ _ _ _ _ _ us hl => match us, hl with | [_, _], _ => rfl
def B_key_clashes_0 : Frm → Res Fl := (sSeq (sSet 5 (eCall m_key_of (aC (eVar 0) (aC (eVar 4) a0))))
  (sSeq (sIfSd 2 (tE boolD (e2 notBD (eVar 5) (eC .none))) (eVar 5) (eVar 4) (eVar 4) (sApp 3 (eN tupD (aC (eDk 2 (eVar 5)) (aC (eVar 4) a0)))) sNext)
  (sKill [4, 5] sNext)))
def T_key_clashes_3 : Frm → Res Fl := (sKill [4, 5] (sRetO 3))
def T_key_clashes_2 : Frm → Res Fl := (sKill [4, 5] (sSeq (sFor (Tg.nm 4) (iF walkD (eVar 1)) B_key_clashes_0)
  T_key_clashes_3))
def T_key_clashes_1 : Frm → Res Fl := (sSeq (sSetL 3 (lN a0))
  T_key_clashes_2)
def F_key_clashes : Frm → Res Fl := (sSeq (sDict0 2)
  T_key_clashes_1)
noncomputable def m_key_clashes : List D → Res RV := hid (defM 2 6 F_key_clashes)
theorem u_key_clashes : m_key_clashes = defM 2 6 F_key_clashes := hid_eq _
theorem kn_key_clashes (kn_key_of : Known (TabList.mk CL P w) P w K mg base 2 "key_of" ["schema", "fact"] m_key_of) (d : Dfn K mg "key_clashes" s_key_clashes ["schema", "facts"]) : Known (TabList.mk CL P w) P w K mg base 3 "key_clashes" ["schema", "facts"] m_key_clashes := Known.cast u_key_clashes (known_of (F := F_key_clashes) (N := N_key_clashes) d sc_key_clashes fun f cdv A outer s H E hr => by
  have C : CtE (cxOf (L2N.CX P w) P w K mg base N_key_clashes "key_clashes" (defScope s_key_clashes) f cdv A outer s H E) := ⟨rfl, sc_key_clashes.nd, room_ct hr⟩
  exact (dss_cons (ds_dict0 2 rfl rfl C)
  (dss_cons (ds_setL 3 (dl_lst da_nil) C)
  (dss_kill [4, 5] (dss_cons (ds_for C (passes_of rfl) (di_any (de_var 1)) (pg_name (i := 4) C.nd rfl (by first | exact Or.inl rfl | exact Or.inr rfl)) (dss_cons (ds_set 5 (de_call kn_key_of hr (by decide) (by rfl) (da_cons (de_var 0) (da_cons (de_var 4) da_nil))) C)
  (dss_cons (ds_ifSd 2 rfl rfl C (dt_cmp od_notB (de_var 5) de_non) (de_var 5) (de_var 4) (de_var 4) (dss_one (ds_app 3 (de_tup (da_cons (de_dk 2 rfl rfl C.un (de_var 5)) (da_cons (de_var 4) da_nil))))) dss_nil ⟨by rfl, by rfl, by rfl, by rfl⟩)
  (dss_kill [4, 5] dss_nil))))
  (dss_kill [4, 5] (dss_one (ds_retO 3))))))))
abbrev s_check_database : Stmt := topS 17
abbrev N_check_database : List Str := ["schema", "database", "clashes", "first", "second"]
theorem sc_check_database : FnScope N_check_database ["schema", "database"] (defScope s_check_database) := ⟨rfl, rfl, rfl, by decide +kernel, rfl, by decide +kernel, by decide +kernel⟩
theorem bo_check_database : BindOk "check_database" s_check_database ["schema", "database"] := fun _ _ _ _ _ _ us hl => match us, hl with | [_, _], _ => rfl
def T_check_database_3 : Frm → Res Fl := (sIf (tE truD (eVar 2)) (sSeq (sSetT (Tg.tp [3, 4]) (e2 atD (eVar 2) (eC (.int 0))))
  (sRaiseF "KeyBroken" ["first", "second"] (aC (eVar 3) (aC (eVar 4) a0)))) sNext)
def T_check_database_2 : Frm → Res Fl := (sSeq (sSet 2 (eCall m_key_clashes (aC (eVar 0) (aC (eVar 1) a0))))
  T_check_database_3)
def T_check_database_1 : Frm → Res Fl := (sSeq (sDrop (eCall m_check_facts (aC (eVar 0) (aC (eVar 1) a0))))
  T_check_database_2)
def F_check_database : Frm → Res Fl := (sSeq (sIf (tE boolD (e2 gtD (eN (oneD lenD) (aC (eVar 1) a0)) (eC (.int 24)))) (sRaise "BadSize") sNext)
  T_check_database_1)
noncomputable def m_check_database : List D → Res RV := hid (defM 2 5 F_check_database)
theorem u_check_database : m_check_database = defM 2 5 F_check_database := hid_eq _
theorem kn_check_database (z_len : mg "len" = none) (g_MOST_FACTS : ∃ t, mg "MOST_FACTS" = some (.int 24 t)) (kn_check_facts : Known (TabList.mk CL P w) P w K mg base 5 "check_facts" ["schema", "facts"] m_check_facts) (kn_key_clashes : Known (TabList.mk CL P w) P w K mg base 3 "key_clashes" ["schema", "facts"] m_key_clashes) (kx_BadSize : ∃ C, ExcC K mg "BadSize" C) (kf_KeyBroken : KnownX P w K mg base "KeyBroken" ["first", "second"]) (d : Dfn K mg "check_database" s_check_database ["schema", "database"]) : Known (TabList.mk CL P w) P w K mg base 6 "check_database" ["schema", "database"] m_check_database := Known.cast u_check_database (known_of (F := F_check_database) (N := N_check_database) d sc_check_database fun f cdv A outer s H E hr => by
  have C : CtE (cxOf (L2N.CX P w) P w K mg base N_check_database "check_database" (defScope s_check_database) f cdv A outer s H E) := ⟨rfl, sc_check_database.nd, room_ct hr⟩
  exact (dss_cons (ds_if (dt_cmp od_gt (de_callB cd_len (by rfl) z_len bt_len (da_cons (de_var 1) da_nil)) (de_gint g_MOST_FACTS (by rfl))) (dss_one (ds_raise0 C kx_BadSize (by rfl))) dss_nil)
  (dss_cons (ds_drop (de_call kn_check_facts hr (by decide) (by rfl) (da_cons (de_var 0) (da_cons (de_var 1) da_nil))))
  (dss_cons (ds_set 2 (de_call kn_key_clashes hr (by decide) (by rfl) (da_cons (de_var 0) (da_cons (de_var 1) da_nil))) C)
  (dss_one (ds_if (dt_tru (de_var 2)) (dss_cons (ds_setT (de_ix (de_var 2) de_int) (pg_tup C.calm (pgs_cons (pg_name (i := 3) C.nd rfl (by first | exact Or.inl rfl | exact Or.inr rfl)) (pgs_cons (pg_name (i := 4) C.nd rfl (by first | exact Or.inl rfl | exact Or.inr rfl)) pgs_nil))))
  (dss_one (ds_raiseF C kf_KeyBroken (hr.mono (by decide)) (by rfl) (da_cons (de_var 3) (da_cons (de_var 4) da_nil))))) dss_nil))))))
abbrev s_check_change : Stmt := topS 18
abbrev N_check_change : List Str := ["schema", "database", "change", "standing", "fact", "deleted", "inserted"]
theorem sc_check_change : FnScope N_check_change ["schema", "database", "change"] (defScope s_check_change) := ⟨rfl, rfl, rfl, by decide +kernel, rfl, by decide +kernel, by decide +kernel⟩
theorem bo_check_change : BindOk "check_change" s_check_change ["schema", "database", "change"] := fun _ _ _ _ _ _ us hl => match us, hl with | [_, _, _], _ => rfl
def B_check_change_1 : Frm → Res Fl := (sSeq (sIf (eInS false 3 (eVar 4)) (sRaiseF "AlreadyThere" ["fact"] (aC (eVar 4) a0)) sNext)
  (sKill [4] sNext))
def B_check_change_0 : Frm → Res Fl := (sSeq (sIf (eInS true 3 (eVar 4)) (sRaiseF "NotThere" ["fact"] (aC (eVar 4) a0)) sNext)
  (sKill [4] sNext))
def T_check_change_5 : Frm → Res Fl := (sKill [4] (sKill [0, 1, 2, 4, 5] (sFor (Tg.nm 4) (iF walkD (eVar 6)) B_check_change_1)))
def T_check_change_4 : Frm → Res Fl := (sKill [0, 1, 2, 4] (sSeq (sFor (Tg.nm 4) (iF walkD (eVar 5)) B_check_change_0)
  T_check_change_5))
def T_check_change_3 : Frm → Res Fl := (sSeq (sSetS 3 (eVar 1))
  T_check_change_4)
def T_check_change_2 : Frm → Res Fl := (sSeq (sDrop (eCall m_check_facts (aC (eVar 0) (aC (eVar 6) a0))))
  T_check_change_3)
def T_check_change_1 : Frm → Res Fl := (sSeq (sDrop (eCall m_check_facts (aC (eVar 0) (aC (eVar 5) a0))))
  T_check_change_2)
def F_check_change : Frm → Res Fl := (sSeq (sSetT (Tg.tp [5, 6]) (eVar 2))
  T_check_change_1)
noncomputable def m_check_change : List D → Res RV := hid (defM 3 7 F_check_change)
theorem u_check_change : m_check_change = defM 3 7 F_check_change := hid_eq _
theorem kn_check_change (z_set : mg "set" = none) (kn_check_facts : Known (TabList.mk CL P w) P w K mg base 5 "check_facts" ["schema", "facts"] m_check_facts) (kf_AlreadyThere : KnownX P w K mg base "AlreadyThere" ["fact"]) (kf_NotThere : KnownX P w K mg base "NotThere" ["fact"]) (d : Dfn K mg "check_change" s_check_change ["schema", "database", "change"]) : Known (TabList.mk CL P w) P w K mg base 6 "check_change" ["schema", "database", "change"] m_check_change := Known.cast u_check_change (known_of (F := F_check_change) (N := N_check_change) d sc_check_change fun f cdv A outer s H E hr => by
  have C : CtE (cxOf (L2N.CX P w) P w K mg base N_check_change "check_change" (defScope s_check_change) f cdv A outer s H E) := ⟨rfl, sc_check_change.nd, room_ct hr⟩
  exact (dss_cons (ds_setT (de_var 2) (pg_tup C.calm (pgs_cons (pg_name (i := 5) C.nd rfl (by first | exact Or.inl rfl | exact Or.inr rfl)) (pgs_cons (pg_name (i := 6) C.nd rfl (by first | exact Or.inl rfl | exact Or.inr rfl)) pgs_nil))))
  (dss_cons (ds_drop (de_call kn_check_facts hr (by decide) (by rfl) (da_cons (de_var 0) (da_cons (de_var 5) da_nil))))
  (dss_cons (ds_drop (de_call kn_check_facts hr (by decide) (by rfl) (da_cons (de_var 0) (da_cons (de_var 6) da_nil))))
  (dss_cons (ds_setS 3 rfl rfl (de_var 1) C (by rfl) z_set bt_set)
  (dss_kill [0, 1, 2, 4] (dss_cons (ds_for C (passes_of rfl) (di_any (de_var 5)) (pg_name (i := 4) C.nd rfl (by first | exact Or.inl rfl | exact Or.inr rfl)) (dss_cons (ds_if (dt_notInS 3 rfl rfl C.un (de_var 4)) (dss_one (ds_raiseF C kf_NotThere (hr.mono (by decide)) (by rfl) (da_cons (de_var 4) da_nil))) dss_nil)
  (dss_kill [4] dss_nil)))
  (dss_kill [4] (dss_kill [0, 1, 2, 4, 5] (dss_one (ds_for C (passes_of rfl) (di_any (de_var 6)) (pg_name (i := 4) C.nd rfl (by first | exact Or.inl rfl | exact Or.inr rfl)) (dss_cons (ds_if (dt_inS 3 rfl rfl C.un (de_var 4)) (dss_one (ds_raiseF C kf_AlreadyThere (hr.mono (by decide)) (by rfl) (da_cons (de_var 4) da_nil))) dss_nil)
  (dss_kill [4] dss_nil)))))))))))))
abbrev s__law_class : Stmt := topS 36
abbrev N__law_class : List Str := ["e", "found"]
theorem sc__law_class : FnScope N__law_class ["e"] (defScope s__law_class) := ⟨rfl, rfl, rfl, by decide +kernel, rfl, by decide +kernel, by decide +kernel⟩
theorem bo__law_class : BindOk "_law_class" s__law_class ["e"] := fun _ _ _ _ _ _ us hl => match us, hl with | [_], _ => rfl
def T__law_class_9 : Frm → Res Fl := (sFrz 1 (sRet (eIxV 1 (eC (.int 0)))))
def T__law_class_8 : Frm → Res Fl := (sSeq (sIf (tOrR (tE boolD (e2 neD (eN (oneD lenD) (aC (eVar 1) a0)) (eC (.int 1)))) (tNotR (tE truD (eIsF isTab 0 "ValueError")))) (sRet (eN tupD (aC (eC (.str "other")) a0))) sNext)
  T__law_class_9)
def T__law_class_7 : Frm → Res Fl := (sSeq (sIf (tE truD (eIsF isTab 0 "AlreadyThere")) (sApp 1 (eN tupD (aC (eC (.str "there")) (aC (eXf xfTab 0 "fact") a0)))) sNext)
  T__law_class_8)
def T__law_class_6 : Frm → Res Fl := (sSeq (sIf (tE truD (eIsF isTab 0 "NotThere")) (sApp 1 (eN tupD (aC (eC (.str "gone")) (aC (eXf xfTab 0 "fact") a0)))) sNext)
  T__law_class_7)
def T__law_class_5 : Frm → Res Fl := (sSeq (sIf (tE truD (eIsF isTab 0 "KeyBroken")) (sApp 1 (eN tupD (aC (eC (.str "key")) (aC (eXf xfTab 0 "first") (aC (eXf xfTab 0 "second") a0))))) sNext)
  T__law_class_6)
def T__law_class_4 : Frm → Res Fl := (sSeq (sIf (tE truD (eIsF isTab 0 "BadSize")) (sApp 1 (eN tupD (aC (eC (.str "size")) a0))) sNext)
  T__law_class_5)
def T__law_class_3 : Frm → Res Fl := (sSeq (sIf (tE truD (eIsF isTab 0 "NotAscending")) (sApp 1 (eN tupD (aC (eC (.str "order")) a0))) sNext)
  T__law_class_4)
def T__law_class_2 : Frm → Res Fl := (sSeq (sIf (tE truD (eIsF isTab 0 "BadRow")) (sApp 1 (eN tupD (aC (eC (.str "row")) a0))) sNext)
  T__law_class_3)
def T__law_class_1 : Frm → Res Fl := (sSeq (sIf (tE truD (eIsF isTab 0 "UnknownTable")) (sApp 1 (eN tupD (aC (eC (.str "table")) a0))) sNext)
  T__law_class_2)
def F__law_class : Frm → Res Fl := (sSeq (sSetL 1 (lN a0))
  T__law_class_1)
noncomputable def m__law_class : D → Res RV := hid (defX 2 F__law_class)
theorem u__law_class : m__law_class = defX 2 F__law_class := hid_eq _
theorem ke__law_class (z_ValueError : mg "ValueError" = none) (z_isinstance : mg "isinstance" = none) (z_len : mg "len" = none) (it : IsT K mg isTab) (xt : XfT K mg xfTab) (d : Dfn K mg "_law_class" s__law_class ["e"]) : KnownE (TabList.mk CL P w) P w K mg base 1 "_law_class" "e" m__law_class := KnownE.cast u__law_class (knownE_of (F := F__law_class) (N := N__law_class) d sc__law_class (by decide) sc__law_class.nd fun f cdv A outer s H E a oe C0 c xd hc hz hfl CB hr => (dss_cons (ds_setLB2 1 (dl_lst da_nil) CB)
  (dss_cons (ds_if (dt_tru (de_isE it CB.pn hc hz.zc hfl rfl (Or.inl rfl) (by rfl) z_isinstance (by rfl))) (dss_one (ds_app 1 (de_tup (da_cons de_str da_nil)))) dss_nil)
  (dss_cons (ds_if (dt_tru (de_isE it CB.pn hc hz.zc hfl rfl (Or.inl rfl) (by rfl) z_isinstance (by rfl))) (dss_one (ds_app 1 (de_tup (da_cons de_str da_nil)))) dss_nil)
  (dss_cons (ds_if (dt_tru (de_isE it CB.pn hc hz.zc hfl rfl (Or.inl rfl) (by rfl) z_isinstance (by rfl))) (dss_one (ds_app 1 (de_tup (da_cons de_str da_nil)))) dss_nil)
  (dss_cons (ds_if (dt_tru (de_isE it CB.pn hc hz.zc hfl rfl (Or.inl rfl) (by rfl) z_isinstance (by rfl))) (dss_one (ds_app 1 (de_tup (da_cons de_str da_nil)))) dss_nil)
  (dss_cons (ds_if (dt_tru (de_isE it CB.pn hc hz.zc hfl rfl (Or.inl rfl) (by rfl) z_isinstance (by rfl))) (dss_one (ds_app 1 (de_tup (da_cons de_str (da_cons (de_xfE xt CB.pn hc hz.zc hfl rfl (Or.inl rfl)) (da_cons (de_xfE xt CB.pn hc hz.zc hfl rfl (Or.inl rfl)) da_nil)))))) dss_nil)
  (dss_cons (ds_if (dt_tru (de_isE it CB.pn hc hz.zc hfl rfl (Or.inl rfl) (by rfl) z_isinstance (by rfl))) (dss_one (ds_app 1 (de_tup (da_cons de_str (da_cons (de_xfE xt CB.pn hc hz.zc hfl rfl (Or.inl rfl)) da_nil))))) dss_nil)
  (dss_cons (ds_if (dt_tru (de_isE it CB.pn hc hz.zc hfl rfl (Or.inl rfl) (by rfl) z_isinstance (by rfl))) (dss_one (ds_app 1 (de_tup (da_cons de_str (da_cons (de_xfE xt CB.pn hc hz.zc hfl rfl (Or.inl rfl)) da_nil))))) dss_nil)
  (dss_cons (ds_if (dw_or (dt_cmp (od_neB CB) (de_callB cd_len (by rfl) z_len bt_len (da_cons (de_var 1) da_nil)) de_int) (dw_or1 (dt_not (dt_tru (de_isE it CB.pn hc hz.zc hfl rfl (Or.inl rfl) (by rfl) z_isinstance (by rfl)))))).dt (dss_one (ds_ret (de_tup (da_cons de_str da_nil)))) dss_nil)
  (dss_frz (i := 1) (dss_one (ds_ret (de_ixV 1 de_int))))))))))))))
abbrev s__law_told : Stmt := topS 37
abbrev N__law_told : List Str := ["which", "schema", "database", "change", "e", "answer"]
theorem sc__law_told : FnScope N__law_told ["which", "schema", "database", "change"] (defScope s__law_told) := ⟨rfl, rfl, rfl, by decide +kernel, rfl, by decide +kernel, by decide +kernel⟩
theorem bo__law_told : BindOk "_law_told" s__law_told ["which", "schema", "database", "change"] := fun _ _ _ _ _ _ us hl => match us, hl with | [_, _, _, _], _ => rfl
def F__law_told : Frm → Res Fl := (sTryF ctTab_ViewError 4 (sSeqX (sIf (tE boolD (e2 eqD (eVar 0) (eC (.int 0)))) (sSetP 5 (eCall m_check_facts (aC (eVar 1) (aC (eVar 2) a0)))) (sIf (tE boolD (e2 eqD (eVar 0) (eC (.int 1)))) (sSetP 5 (eCall m_check_database (aC (eVar 1) (aC (eVar 2) a0)))) (sSetP 5 (eCall m_check_change (aC (eVar 1) (aC (eVar 2) (aC (eVar 3) a0))))))) (sSeq (sIf (tE boolD (e2 isBD (eVar 5) (eC .none))) (sRet (eN tupD (aC (eC (.str "good")) a0))) sNext)
  (sRet (eN tupD (aC (eC (.str "other")) a0))))) (sRet (eCallE 4 m__law_class)))
noncomputable def m__law_told : List D → Res RV := hid (defM 4 6 F__law_told)
theorem u__law_told : m__law_told = defM 4 6 F__law_told := hid_eq _
theorem kn__law_told (kn_check_change : Known (TabList.mk CL P w) P w K mg base 6 "check_change" ["schema", "database", "change"] m_check_change) (kn_check_database : Known (TabList.mk CL P w) P w K mg base 6 "check_database" ["schema", "database"] m_check_database) (kn_check_facts : Known (TabList.mk CL P w) P w K mg base 5 "check_facts" ["schema", "facts"] m_check_facts) (ke__law_class : KnownE (TabList.mk CL P w) P w K mg base 1 "_law_class" "e" m__law_class) (ct_ViewError : CtT K mg "ViewError" ctTab_ViewError) (d : Dfn K mg "_law_told" s__law_told ["which", "schema", "database", "change"]) : Known (TabList.mk CL P w) P w K mg base 7 "_law_told" ["which", "schema", "database", "change"] m__law_told := Known.cast u__law_told (known_of (F := F__law_told) (N := N__law_told) d sc__law_told fun f cdv A outer s H E hr => by
  have C : CtE (cxOf (L2N.CX P w) P w K mg base N__law_told "_law_told" (defScope s__law_told) f cdv A outer s H E) := ⟨rfl, sc__law_told.nd, room_ct hr⟩
  exact (dss_one (ds_tryF (i := 4) rfl rfl C.nd rfl rfl (by rfl) (by decide) ct_ViewError rfl (fun pn xe => have C := C.tr pn xe; (dsx_cons (dstx_if (dt_cmp (od_eq C) (de_var 0) de_int) (dsx_one (dstx_set 5 (de_call kn_check_facts hr (by decide) (by rfl) (da_cons (de_var 1) (da_cons (de_var 2) da_nil))) C.nd)) (dsx_if (dt_cmp (od_eq C) (de_var 0) de_int) (dsx_one (dstx_set 5 (de_call kn_check_database hr (by decide) (by rfl) (da_cons (de_var 1) (da_cons (de_var 2) da_nil))) C.nd)) (dsx_one (dstx_set 5 (de_call kn_check_change hr (by decide) (by rfl) (da_cons (de_var 1) (da_cons (de_var 2) (da_cons (de_var 3) da_nil)))) C.nd)))) (dss_cons (ds_if (dt_cmp od_isB (de_var 5) de_non) (dss_one (ds_ret (de_tup (da_cons de_str da_nil)))) dss_nil)
  (dss_one (ds_ret (de_tup (da_cons de_str da_nil))))))) (fun a oe E pn c xd hc hz hfl => have CB := CtE.suite (a := a) (pn := pn) C hz hfl; (dss_one (ds_ret (de_callE ke__law_class CB (roomS hr) (by decide) hc hz hfl (by rfl) rfl (Or.inl rfl))))))))
abbrev s__law_is_word : Stmt := topS 32
abbrev N__law_is_word : List Str := ["word", "signs", "sign"]
theorem sc__law_is_word : FnScope N__law_is_word ["word"] (defScope s__law_is_word) := ⟨rfl, rfl, rfl, by decide +kernel, rfl, by decide +kernel, by decide +kernel⟩
theorem bo__law_is_word : BindOk "_law_is_word" s__law_is_word ["word"] := fun _ _ _ _ _ _ us hl => match us, hl with | [_], _ => rfl
def F__law_is_word : Frm → Res Fl := (sSeq (sSet 1 (eC (.str "abcdefghijklmnopqrstuvwxyz0123456789")))
  (sSeq (sIf (tNotR (tE truD (e1 (isiD "str") (eVar 0)))) (sRet (eC (.bool false))) sNext)
  (sRet (eAnd (eChain leD leD (eC (.int 1)) (eN (oneD lenD) (aC (eVar 0) a0)) (eC (.int 12))) (eN (oneD allD) (aC (eL (lComp [2] (Tg.nm 2) (iF walkD (eVar 0)) tYesR (e2 inD (eVar 2) (eVar 1)))) a0))))))
noncomputable def m__law_is_word : List D → Res RV := hid (defM 1 3 F__law_is_word)
theorem u__law_is_word : m__law_is_word = defM 1 3 F__law_is_word := hid_eq _
theorem kn__law_is_word (z_all : mg "all" = none) (z_isinstance : mg "isinstance" = none) (z_len : mg "len" = none) (z_str : mg "str" = none) (d : Dfn K mg "_law_is_word" s__law_is_word ["word"]) : Known (TabList.mk CL P w) P w K mg base 1 "_law_is_word" ["word"] m__law_is_word := Known.cast u__law_is_word (known_of (F := F__law_is_word) (N := N__law_is_word) d sc__law_is_word fun f cdv A outer s H E hr => by
  have C : CtE (cxOf (L2N.CX P w) P w K mg base N__law_is_word "_law_is_word" (defScope s__law_is_word) f cdv A outer s H E) := ⟨rfl, sc__law_is_word.nd, room_ct hr⟩
  exact (dss_cons (ds_set 1 de_str C)
  (dss_cons (ds_if (dt_not (dt_tru (de_isi kit_str (by rfl) z_isinstance (by rfl) z_str bt_str (de_var 0)))) (dss_one (ds_ret de_bl)) dss_nil)
  (dss_one (ds_ret (de_and (de_chain od_le od_le de_int (de_callB cd_len (by rfl) z_len bt_len (da_cons (de_var 0) da_nil)) de_int) (de_one (de_callB (cd_all C) (by rfl) z_all bt_all (da_cons (dl_comp C (di_any (de_var 0)) (blkOk_by (N := N__law_is_word) (sc := defScope s__law_is_word) (own := [("sign", 2)]) (by decide +kernel)) (by decide) (fun _ _ _ _ _ => (pg_name (i := 2) C.blk.nd rfl (by first | exact Or.inl rfl | exact Or.inr rfl))) (fun _ _ _ _ _ => dts_nil) (fun _ _ _ _ _ => (de_cmp (od_in C.blk) (de_var 2) (de_var 1)))).de da_nil)))))))))
abbrev s__law_facts_due : Stmt := topS 33
abbrev N__law_facts_due : List Str := ["schema", "facts", "last", "name", "row", "place", "word"]
theorem sc__law_facts_due : FnScope N__law_facts_due ["schema", "facts"] (defScope s__law_facts_due) := ⟨rfl, rfl, rfl, by decide +kernel, rfl, by decide +kernel, by decide +kernel⟩
theorem bo__law_facts_due : BindOk "_law_facts_due" s__law_facts_due ["schema", "facts"] := fun _ _ _ _ _ _ us hl => match us, hl with | [_, _], _ => rfl
def B__law_facts_due_0 : Frm → Res Fl := (sSeq (sSet 5 (eCall m__law_place (aC (eVar 0) (aC (eVar 3) a0))))
  (sSeq (sIf (tE boolD (e2 eqD (eVar 5) (eN (oneD lenD) (aC (eVar 0) a0)))) (sRet (eN tupD (aC (eC (.str "table")) a0))) sNext)
  (sSeq (sIf (tOrR (tE boolD (e2 neD (eN (oneD lenD) (aC (eVar 4) a0)) (e2 atD (e2 atD (eVar 0) (eVar 5)) (eC (.int 1))))) (tNotR (tE truD (eN (oneD allD) (aC (eL (lComp [6] (Tg.nm 6) (iF walkD (eVar 4)) tYesR (eCall m__law_is_word (aC (eVar 6) a0)))) a0))))) (sRet (eN tupD (aC (eC (.str "row")) a0))) sNext)
  (sSeq (sIf (tAndR (tE boolD (e2 notBD (eVar 2) (eC .none))) (tE boolD (e2 leTD (eN tupD (aC (eVar 5) (aC (eVar 4) a0))) (eVar 2)))) (sRet (eN tupD (aC (eC (.str "order")) a0))) sNext)
  (sSeq (sSet 2 (eN tupD (aC (eVar 5) (aC (eVar 4) a0))))
  (sKill [3, 4, 5] sNext))))))
def F__law_facts_due : Frm → Res Fl := (sSeq (sSet 2 (eC .none))
  (sKill [3, 4, 5, 6] (sSeq (sFor (Tg.tp [3, 4]) (iF walkD (eVar 1)) B__law_facts_due_0)
  (sKill [2, 3, 4, 5] (sRet (eN tupD (aC (eC (.str "good")) a0)))))))
noncomputable def m__law_facts_due : List D → Res RV := hid (defM 2 7 F__law_facts_due)
theorem u__law_facts_due : m__law_facts_due = defM 2 7 F__law_facts_due := hid_eq _
theorem kn__law_facts_due (z_all : mg "all" = none) (z_len : mg "len" = none) (kn__law_is_word : Known (TabList.mk CL P w) P w K mg base 1 "_law_is_word" ["word"] m__law_is_word) (kn__law_place : Known (TabList.mk CL P w) P w K mg base 1 "_law_place" ["schema", "name"] m__law_place) (d : Dfn K mg "_law_facts_due" s__law_facts_due ["schema", "facts"]) : Known (TabList.mk CL P w) P w K mg base 2 "_law_facts_due" ["schema", "facts"] m__law_facts_due := Known.cast u__law_facts_due (known_of (F := F__law_facts_due) (N := N__law_facts_due) d sc__law_facts_due fun f cdv A outer s H E hr => by
  have C : CtE (cxOf (L2N.CX P w) P w K mg base N__law_facts_due "_law_facts_due" (defScope s__law_facts_due) f cdv A outer s H E) := ⟨rfl, sc__law_facts_due.nd, room_ct hr⟩
  exact (dss_cons (ds_set 2 de_non C)
  (dss_kill [3, 4, 5, 6] (dss_cons (ds_for C (passes_of rfl) (di_any (de_var 1)) (pg_tup C.calm (pgs_cons (pg_name (i := 3) C.nd rfl (by first | exact Or.inl rfl | exact Or.inr rfl)) (pgs_cons (pg_name (i := 4) C.nd rfl (by first | exact Or.inl rfl | exact Or.inr rfl)) pgs_nil))) (dss_cons (ds_set 5 (de_call kn__law_place hr (by decide) (by rfl) (da_cons (de_var 0) (da_cons (de_var 3) da_nil))) C)
  (dss_cons (ds_if (dt_cmp (od_eq C) (de_var 5) (de_callB cd_len (by rfl) z_len bt_len (da_cons (de_var 0) da_nil))) (dss_one (ds_ret (de_tup (da_cons de_str da_nil)))) dss_nil)
  (dss_cons (ds_if (dw_or (dt_cmp (od_ne C) (de_callB cd_len (by rfl) z_len bt_len (da_cons (de_var 4) da_nil)) (de_ix (de_ix (de_var 0) (de_var 5)) de_int)) (dw_or1 (dt_not (dt_tru (de_callB (cd_all C) (by rfl) z_all bt_all (da_cons (dl_comp C (di_any (de_var 4)) (blkOk_by (N := N__law_facts_due) (sc := defScope s__law_facts_due) (own := [("word", 6)]) (by decide +kernel)) (by decide) (fun _ _ _ _ _ => (pg_name (i := 6) C.blk.nd rfl (by first | exact Or.inl rfl | exact Or.inr rfl))) (fun _ _ _ _ _ => dts_nil) (fun _ _ _ _ _ => (de_call kn__law_is_word hr (by decide) (by rfl) (da_cons (de_var 6) da_nil)))).de da_nil)))))).dt (dss_one (ds_ret (de_tup (da_cons de_str da_nil)))) dss_nil)
  (dss_cons (ds_if (dw_and (dt_cmp od_notB (de_var 2) de_non) (dw_and1 (dt_cmp (od_leT C) (de_tup (da_cons (de_var 5) (da_cons (de_var 4) da_nil))) (de_var 2)))).dt (dss_one (ds_ret (de_tup (da_cons de_str da_nil)))) dss_nil)
  (dss_cons (ds_set 2 (de_tup (da_cons (de_var 5) (da_cons (de_var 4) da_nil))) C)
  (dss_kill [3, 4, 5] dss_nil)))))))
  (dss_kill [2, 3, 4, 5] (dss_one (ds_ret (de_tup (da_cons de_str da_nil)))))))))
abbrev s__law_same_key : Stmt := topS 25
abbrev N__law_same_key : List Str := ["schema", "first", "second", "name", "width", "key"]
theorem sc__law_same_key : FnScope N__law_same_key ["schema", "first", "second"] (defScope s__law_same_key) := ⟨rfl, rfl, rfl, by decide +kernel, rfl, by decide +kernel, by decide +kernel⟩
theorem bo__law_same_key : BindOk "_law_same_key" s__law_same_key ["schema", "first", "second"] := fun _ _ _ _ _ _ us hl => match us, hl with | [_, _, _], _ => rfl
def B__law_same_key_0 : Frm → Res Fl := (sSeq (sIf (tAndR (tE boolD (e2 eqD (e2 atD (eVar 1) (eC (.int 0))) (eVar 3))) (tAndR (tE boolD (e2 eqD (e2 atD (eVar 2) (eC (.int 0))) (eVar 3))) (tE boolD (e2 notBD (eVar 5) (eC .none))))) (sRet (e2 eqD (eSlice (e2 atD (eVar 1) (eC (.int 1))) oNone (oSome (eVar 5))) (eSlice (e2 atD (eVar 2) (eC (.int 1))) oNone (oSome (eVar 5))))) sNext)
  (sKill [3, 4, 5] sNext))
def F__law_same_key : Frm → Res Fl := (sKill [3, 4, 5] (sSeq (sFor (Tg.tp [3, 4, 5]) (iF walkD (eVar 0)) B__law_same_key_0)
  (sKill [3, 4, 5] (sRet (eC (.bool false))))))
noncomputable def m__law_same_key : List D → Res RV := hid (defM 3 6 F__law_same_key)
theorem u__law_same_key : m__law_same_key = defM 3 6 F__law_same_key := hid_eq _
theorem kn__law_same_key  (d : Dfn K mg "_law_same_key" s__law_same_key ["schema", "first", "second"]) : Known (TabList.mk CL P w) P w K mg base 1 "_law_same_key" ["schema", "first", "second"] m__law_same_key := Known.cast u__law_same_key (known_of (F := F__law_same_key) (N := N__law_same_key) d sc__law_same_key fun f cdv A outer s H E hr => by
  have C : CtE (cxOf (L2N.CX P w) P w K mg base N__law_same_key "_law_same_key" (defScope s__law_same_key) f cdv A outer s H E) := ⟨rfl, sc__law_same_key.nd, room_ct hr⟩
  exact (dss_kill [3, 4, 5] (dss_cons (ds_for C (passes_of rfl) (di_any (de_var 0)) (pg_tup C.calm (pgs_cons (pg_name (i := 3) C.nd rfl (by first | exact Or.inl rfl | exact Or.inr rfl)) (pgs_cons (pg_name (i := 4) C.nd rfl (by first | exact Or.inl rfl | exact Or.inr rfl)) (pgs_cons (pg_name (i := 5) C.nd rfl (by first | exact Or.inl rfl | exact Or.inr rfl)) pgs_nil)))) (dss_cons (ds_if (dw_and (dt_cmp (od_eq C) (de_ix (de_var 1) de_int) (de_var 3)) (dw_and (dt_cmp (od_eq C) (de_ix (de_var 2) de_int) (de_var 3)) (dw_and1 (dt_cmp od_notB (de_var 5) de_non)))).dt (dss_one (ds_ret (de_cmp (od_eq C) (de_slice (de_ix (de_var 1) de_int) do_none (do_some (de_var 5))) (de_slice (de_ix (de_var 2) de_int) do_none (do_some (de_var 5)))))) dss_nil)
  (dss_kill [3, 4, 5] dss_nil)))
  (dss_kill [3, 4, 5] (dss_one (ds_ret de_bl))))))
abbrev s__law_database_due : Stmt := topS 34
abbrev N__law_database_due : List Str := ["schema", "facts", "due", "at", "other"]
theorem sc__law_database_due : FnScope N__law_database_due ["schema", "facts"] (defScope s__law_database_due) := ⟨rfl, rfl, rfl, by decide +kernel, rfl, by decide +kernel, by decide +kernel⟩
theorem bo__law_database_due : BindOk "_law_database_due" s__law_database_due ["schema", "facts"] := fun _ _ _ _ _ _ us hl => match us, hl with | [_, _], _ => rfl
def B__law_database_due_1 : Frm → Res Fl := (sSeq (sIf (tE truD (eCall m__law_same_key (aC (eVar 0) (aC (eVar 4) (aC (e2 atD (eVar 1) (eVar 3)) a0))))) (sRet (eN tupD (aC (eC (.str "key")) (aC (eVar 4) (aC (e2 atD (eVar 1) (eVar 3)) a0))))) sNext)
  (sKill [4] sNext))
def B__law_database_due_0 : Frm → Res Fl := (sSeq (sFor (Tg.nm 4) (iF walkD (eSlice (eVar 1) oNone (oSome (eVar 3)))) B__law_database_due_1)
  (sKill [3, 4] sNext))
def T__law_database_due_4 : Frm → Res Fl := (sKill [3, 4] (sRet (eN tupD (aC (eC (.str "good")) a0))))
def T__law_database_due_3 : Frm → Res Fl := (sKill [2, 3, 4] (sSeq (sForR (Tg.nm 3) (iF r1D (eN (oneD lenD) (aC (eVar 1) a0))) B__law_database_due_0)
  T__law_database_due_4))
def T__law_database_due_2 : Frm → Res Fl := (sSeq (sIf (tE boolD (e2 neD (eVar 2) (eN tupD (aC (eC (.str "good")) a0)))) (sRet (eVar 2)) sNext)
  T__law_database_due_3)
def T__law_database_due_1 : Frm → Res Fl := (sSeq (sSet 2 (eCall m__law_facts_due (aC (eVar 0) (aC (eVar 1) a0))))
  T__law_database_due_2)
def F__law_database_due : Frm → Res Fl := (sSeq (sIf (tE boolD (e2 gtD (eN (oneD lenD) (aC (eVar 1) a0)) (eC (.int 24)))) (sRet (eN tupD (aC (eC (.str "size")) a0))) sNext)
  T__law_database_due_1)
noncomputable def m__law_database_due : List D → Res RV := hid (defM 2 5 F__law_database_due)
theorem u__law_database_due : m__law_database_due = defM 2 5 F__law_database_due := hid_eq _
theorem kn__law_database_due (z_len : mg "len" = none) (z_range : mg "range" = none) (kn__law_facts_due : Known (TabList.mk CL P w) P w K mg base 2 "_law_facts_due" ["schema", "facts"] m__law_facts_due) (kn__law_same_key : Known (TabList.mk CL P w) P w K mg base 1 "_law_same_key" ["schema", "first", "second"] m__law_same_key) (d : Dfn K mg "_law_database_due" s__law_database_due ["schema", "facts"]) : Known (TabList.mk CL P w) P w K mg base 3 "_law_database_due" ["schema", "facts"] m__law_database_due := Known.cast u__law_database_due (known_of (F := F__law_database_due) (N := N__law_database_due) d sc__law_database_due fun f cdv A outer s H E hr => by
  have C : CtE (cxOf (L2N.CX P w) P w K mg base N__law_database_due "_law_database_due" (defScope s__law_database_due) f cdv A outer s H E) := ⟨rfl, sc__law_database_due.nd, room_ct hr⟩
  exact (dss_cons (ds_if (dt_cmp od_gt (de_callB cd_len (by rfl) z_len bt_len (da_cons (de_var 1) da_nil)) de_int) (dss_one (ds_ret (de_tup (da_cons de_str da_nil)))) dss_nil)
  (dss_cons (ds_set 2 (de_call kn__law_facts_due hr (by decide) (by rfl) (da_cons (de_var 0) (da_cons (de_var 1) da_nil))) C)
  (dss_cons (ds_if (dt_cmp (od_ne C) (de_var 2) (de_tup (da_cons de_str da_nil))) (dss_one (ds_ret (de_var 2))) dss_nil)
  (dss_kill [2, 3, 4] (dss_cons (ds_forR C (passes_of rfl) (fw_range1 (by rfl) z_range (de_callB cd_len (by rfl) z_len bt_len (da_cons (de_var 1) da_nil))) (pg_name (i := 3) C.nd rfl (by first | exact Or.inl rfl | exact Or.inr rfl)) (dss_cons (ds_for C (passes_of rfl) (di_any (de_slice (de_var 1) do_none (do_some (de_var 3)))) (pg_name (i := 4) C.nd rfl (by first | exact Or.inl rfl | exact Or.inr rfl)) (dss_cons (ds_if (dt_tru (de_call kn__law_same_key hr (by decide) (by rfl) (da_cons (de_var 0) (da_cons (de_var 4) (da_cons (de_ix (de_var 1) (de_var 3)) da_nil))))) (dss_one (ds_ret (de_tup (da_cons de_str (da_cons (de_var 4) (da_cons (de_ix (de_var 1) (de_var 3)) da_nil)))))) dss_nil)
  (dss_kill [4] dss_nil)))
  (dss_kill [3, 4] dss_nil)))
  (dss_kill [3, 4] (dss_one (ds_ret (de_tup (da_cons de_str da_nil)))))))))))
abbrev s__law_asked : Stmt := topS 38
abbrev N__law_asked : List Str := ["schema", "facts", "handed", "first", "second"]
theorem sc__law_asked : FnScope N__law_asked ["schema", "facts"] (defScope s__law_asked) := ⟨rfl, rfl, rfl, by decide +kernel, rfl, by decide +kernel, by decide +kernel⟩
theorem bo__law_asked : BindOk "_law_asked" s__law_asked ["schema", "facts"] := fun _ _ _ _ _ _ us hl => match us, hl with | [_, _], _ => rfl
def T__law_asked_4 : Frm → Res Fl := (sRet (e2 eqD (eVar 2) (eVar 1)))
def T__law_asked_3 : Frm → Res Fl := (sSeq (sIf (tOrR (tE boolD (e2 neD (eVar 3) (eCall m__law_facts_due (aC (eVar 0) (aC (eVar 1) a0))))) (tE boolD (e2 neD (eVar 4) (eCall m__law_database_due (aC (eVar 0) (aC (eVar 1) a0)))))) (sRet (eC (.bool false))) sNext)
  T__law_asked_4)
def T__law_asked_2 : Frm → Res Fl := (sSeq (sSet 4 (eCall m__law_told (aC (eC (.int 1)) (aC (eVar 0) (aC (eVar 2) (aC (eC .none) a0))))))
  T__law_asked_3)
def T__law_asked_1 : Frm → Res Fl := (sSeq (sSet 3 (eCall m__law_told (aC (eC (.int 0)) (aC (eVar 0) (aC (eVar 2) (aC (eC .none) a0))))))
  T__law_asked_2)
def F__law_asked : Frm → Res Fl := (sSeq (sSet 2 (eL (lF (oneL itemsD) (aC (eVar 1) a0))))
  T__law_asked_1)
noncomputable def m__law_asked : List D → Res RV := hid (defM 2 5 F__law_asked)
theorem u__law_asked : m__law_asked = defM 2 5 F__law_asked := hid_eq _
theorem kn__law_asked (z_list : mg "list" = none) (kn__law_database_due : Known (TabList.mk CL P w) P w K mg base 3 "_law_database_due" ["schema", "facts"] m__law_database_due) (kn__law_facts_due : Known (TabList.mk CL P w) P w K mg base 2 "_law_facts_due" ["schema", "facts"] m__law_facts_due) (kn__law_told : Known (TabList.mk CL P w) P w K mg base 7 "_law_told" ["which", "schema", "database", "change"] m__law_told) (d : Dfn K mg "_law_asked" s__law_asked ["schema", "facts"]) : Known (TabList.mk CL P w) P w K mg base 8 "_law_asked" ["schema", "facts"] m__law_asked := Known.cast u__law_asked (known_of (F := F__law_asked) (N := N__law_asked) d sc__law_asked fun f cdv A outer s H E hr => by
  have C : CtE (cxOf (L2N.CX P w) P w K mg base N__law_asked "_law_asked" (defScope s__law_asked) f cdv A outer s H E) := ⟨rfl, sc__law_asked.nd, room_ct hr⟩
  exact (dss_cons (ds_set 2 (dl_callTy cl_list (by rfl) z_list bt_list (da_cons (de_var 1) da_nil)).de C)
  (dss_cons (ds_set 3 (de_call kn__law_told hr (by decide) (by rfl) (da_cons de_int (da_cons (de_var 0) (da_cons (de_var 2) (da_cons de_non da_nil))))) C)
  (dss_cons (ds_set 4 (de_call kn__law_told hr (by decide) (by rfl) (da_cons de_int (da_cons (de_var 0) (da_cons (de_var 2) (da_cons de_non da_nil))))) C)
  (dss_cons (ds_if (dw_or (dt_cmp (od_ne C) (de_var 3) (de_call kn__law_facts_due hr (by decide) (by rfl) (da_cons (de_var 0) (da_cons (de_var 1) da_nil)))) (dw_or1 (dt_cmp (od_ne C) (de_var 4) (de_call kn__law_database_due hr (by decide) (by rfl) (da_cons (de_var 0) (da_cons (de_var 1) da_nil)))))).dt (dss_one (ds_ret de_bl)) dss_nil)
  (dss_one (ds_ret (de_cmp (od_eq C) (de_var 2) (de_var 1)))))))))
abbrev s__law_database : Stmt := topS 30
abbrev N__law_database : List Str := ["schema", "words", "draws", "many", "facts", "fact", "other"]
theorem sc__law_database : FnScope N__law_database ["schema", "words", "draws", "many"] (defScope s__law_database) := ⟨rfl, rfl, rfl, by decide +kernel, rfl, by decide +kernel, by decide +kernel⟩
theorem bo__law_database : BindOk "_law_database" s__law_database ["schema", "words", "draws", "many"] := fun _ _ _ _ _ _ us hl => match us, hl with | [_, _, _, _], _ => rfl
def B__law_database_0 : Frm → Res Fl := (sSeq (sIf (tNotR (tE truD (eN (oneD anyD) (aC (eL (lComp [6] (Tg.nm 6) (iF walkD (eVar 4)) tYesR (eCall m__law_same_key (aC (eVar 0) (aC (eVar 6) (aC (eVar 5) a0)))))) a0)))) (sApp 4 (eVar 5)) sNext)
  (sKill [5] sNext))
def F__law_database : Frm → Res Fl := (sSeq (sSetL 4 (lN a0))
  (sKill [5, 6] (sSeq (sFor (Tg.nm 5) (iF walkD (eCall m__law_facts (aC (eVar 0) (aC (eVar 1) (aC (eVar 2) (aC (eVar 3) a0)))))) B__law_database_0)
  (sKill [5] (sFrz 4 (sRet (eCall m__law_ascending (aC (eVar 0) (aC (eVar 4) a0)))))))))
noncomputable def m__law_database : List D → Res RV := hid (defM 4 7 F__law_database)
theorem u__law_database : m__law_database = defM 4 7 F__law_database := hid_eq _
theorem kn__law_database (z_any : mg "any" = none) (kn__law_ascending : Known (TabList.mk CL P w) P w K mg base 2 "_law_ascending" ["schema", "facts"] m__law_ascending) (kn__law_facts : Known (TabList.mk CL P w) P w K mg base 2 "_law_facts" ["schema", "words", "draws", "many"] m__law_facts) (kn__law_same_key : Known (TabList.mk CL P w) P w K mg base 1 "_law_same_key" ["schema", "first", "second"] m__law_same_key) (d : Dfn K mg "_law_database" s__law_database ["schema", "words", "draws", "many"]) : Known (TabList.mk CL P w) P w K mg base 3 "_law_database" ["schema", "words", "draws", "many"] m__law_database := Known.cast u__law_database (known_of (F := F__law_database) (N := N__law_database) d sc__law_database fun f cdv A outer s H E hr => by
  have C : CtE (cxOf (L2N.CX P w) P w K mg base N__law_database "_law_database" (defScope s__law_database) f cdv A outer s H E) := ⟨rfl, sc__law_database.nd, room_ct hr⟩
  exact (dss_cons (ds_setL 4 (dl_lst da_nil) C)
  (dss_kill [5, 6] (dss_cons (ds_for C (passes_of rfl) (di_any (de_call kn__law_facts hr (by decide) (by rfl) (da_cons (de_var 0) (da_cons (de_var 1) (da_cons (de_var 2) (da_cons (de_var 3) da_nil)))))) (pg_name (i := 5) C.nd rfl (by first | exact Or.inl rfl | exact Or.inr rfl)) (dss_cons (ds_if (dt_not (dt_tru (de_callB (cd_any C) (by rfl) z_any bt_any (da_cons (dl_comp C (di_any (de_var 4)) (blkOk_by (N := N__law_database) (sc := defScope s__law_database) (own := [("other", 6)]) (by decide +kernel)) (by decide) (fun _ _ _ _ _ => (pg_name (i := 6) C.blk.nd rfl (by first | exact Or.inl rfl | exact Or.inr rfl))) (fun _ _ _ _ _ => dts_nil) (fun _ _ _ _ _ => (de_call kn__law_same_key hr (by decide) (by rfl) (da_cons (de_var 0) (da_cons (de_var 6) (da_cons (de_var 5) da_nil)))))).de da_nil)))) (dss_one (ds_app 4 (de_var 5))) dss_nil)
  (dss_kill [5] dss_nil)))
  (dss_kill [5] (dss_frz (i := 4) (dss_one (ds_ret (de_call kn__law_ascending hr (by decide) (by rfl) (da_cons (de_var 0) (da_cons (de_var 4) da_nil)))))))))))
abbrev s__law_change_due : Stmt := topS 35
abbrev N__law_change_due : List Str := ["schema", "database", "change", "facts", "fact", "due"]
theorem sc__law_change_due : FnScope N__law_change_due ["schema", "database", "change"] (defScope s__law_change_due) := ⟨rfl, rfl, rfl, by decide +kernel, rfl, by decide +kernel, by decide +kernel⟩
theorem bo__law_change_due : BindOk "_law_change_due" s__law_change_due ["schema", "database", "change"] := fun _ _ _ _ _ _ us hl => match us, hl with | [_, _, _], _ => rfl
def B__law_change_due_2 : Frm → Res Fl := (sSeq (sIf (tE boolD (e2 inD (eVar 4) (eVar 1))) (sRet (eN tupD (aC (eC (.str "there")) (aC (eVar 4) a0)))) sNext)
  (sKill [4] sNext))
def B__law_change_due_1 : Frm → Res Fl := (sSeq (sIf (tE boolD (e2 notInD (eVar 4) (eVar 1))) (sRet (eN tupD (aC (eC (.str "gone")) (aC (eVar 4) a0)))) sNext)
  (sKill [4] sNext))
def B__law_change_due_0 : Frm → Res Fl := (sSeq (sSet 5 (eCall m__law_facts_due (aC (eVar 0) (aC (eVar 3) a0))))
  (sSeq (sIf (tE boolD (e2 neD (eVar 5) (eN tupD (aC (eC (.str "good")) a0)))) (sRet (eVar 5)) sNext)
  (sKill [3, 5] sNext)))
def T__law_change_due_3 : Frm → Res Fl := (sKill [4] (sRet (eN tupD (aC (eC (.str "good")) a0))))
def T__law_change_due_2 : Frm → Res Fl := (sKill [4] (sKill [0, 3, 4, 5] (sSeq (sFor (Tg.nm 4) (iF walkD (e2 atD (eVar 2) (eC (.int 1)))) B__law_change_due_2)
  T__law_change_due_3)))
def T__law_change_due_1 : Frm → Res Fl := (sKill [3, 5] (sKill [0, 3, 4, 5] (sSeq (sFor (Tg.nm 4) (iF walkD (e2 atD (eVar 2) (eC (.int 0)))) B__law_change_due_1)
  T__law_change_due_2)))
def F__law_change_due : Frm → Res Fl := (sKill [3, 4, 5] (sSeq (sFor (Tg.nm 3) (iF walkD (eVar 2)) B__law_change_due_0)
  T__law_change_due_1))
noncomputable def m__law_change_due : List D → Res RV := hid (defM 3 6 F__law_change_due)
theorem u__law_change_due : m__law_change_due = defM 3 6 F__law_change_due := hid_eq _
theorem kn__law_change_due (kn__law_facts_due : Known (TabList.mk CL P w) P w K mg base 2 "_law_facts_due" ["schema", "facts"] m__law_facts_due) (d : Dfn K mg "_law_change_due" s__law_change_due ["schema", "database", "change"]) : Known (TabList.mk CL P w) P w K mg base 3 "_law_change_due" ["schema", "database", "change"] m__law_change_due := Known.cast u__law_change_due (known_of (F := F__law_change_due) (N := N__law_change_due) d sc__law_change_due fun f cdv A outer s H E hr => by
  have C : CtE (cxOf (L2N.CX P w) P w K mg base N__law_change_due "_law_change_due" (defScope s__law_change_due) f cdv A outer s H E) := ⟨rfl, sc__law_change_due.nd, room_ct hr⟩
  exact (dss_kill [3, 4, 5] (dss_cons (ds_for C (passes_of rfl) (di_any (de_var 2)) (pg_name (i := 3) C.nd rfl (by first | exact Or.inl rfl | exact Or.inr rfl)) (dss_cons (ds_set 5 (de_call kn__law_facts_due hr (by decide) (by rfl) (da_cons (de_var 0) (da_cons (de_var 3) da_nil))) C)
  (dss_cons (ds_if (dt_cmp (od_ne C) (de_var 5) (de_tup (da_cons de_str da_nil))) (dss_one (ds_ret (de_var 5))) dss_nil)
  (dss_kill [3, 5] dss_nil))))
  (dss_kill [3, 5] (dss_kill [0, 3, 4, 5] (dss_cons (ds_for C (passes_of rfl) (di_any (de_ix (de_var 2) de_int)) (pg_name (i := 4) C.nd rfl (by first | exact Or.inl rfl | exact Or.inr rfl)) (dss_cons (ds_if (dt_cmp (od_notIn C) (de_var 4) (de_var 1)) (dss_one (ds_ret (de_tup (da_cons de_str (da_cons (de_var 4) da_nil))))) dss_nil)
  (dss_kill [4] dss_nil)))
  (dss_kill [4] (dss_kill [0, 3, 4, 5] (dss_cons (ds_for C (passes_of rfl) (di_any (de_ix (de_var 2) de_int)) (pg_name (i := 4) C.nd rfl (by first | exact Or.inl rfl | exact Or.inr rfl)) (dss_cons (ds_if (dt_cmp (od_in C) (de_var 4) (de_var 1)) (dss_one (ds_ret (de_tup (da_cons de_str (da_cons (de_var 4) da_nil))))) dss_nil)
  (dss_kill [4] dss_nil)))
  (dss_kill [4] (dss_one (ds_ret (de_tup (da_cons de_str da_nil))))))))))))))
abbrev s_law : Stmt := topS 39
abbrev N_law : List Str := ["script", "draws", "pool", "words", "schema", "facts", "database", "deleted", "inserted", "change", "handed", "many", "single", "fact", "word"]
theorem sc_law : FnScope N_law ["script"] (defScope s_law) := ⟨rfl, rfl, rfl, by decide +kernel, rfl, by decide +kernel, by decide +kernel⟩
theorem bo_law : BindOk "law" s_law ["script"] := fun _ _ _ _ _ _ us hl => match us, hl with | [_], _ => rfl
def T_law_21 : Frm → Res Fl := (sRet (e2 eqD (eCall m__law_told (aC (eC (.int 1)) (aC (eVar 12) (aC (e2 addD (eSlice (eVar 11) oNone (oSome (eC (.int 24)))) (eL (lN (aC (eN tupD (aC (e2 atD (eVar 2) (eC (.int 1))) (aC (eN tupD (aC (eC (.str "x")) a0)) a0))) a0)))) (aC (eC .none) a0))))) (eN tupD (aC (eC (.str "size")) a0))))
def T_law_20 : Frm → Res Fl := (sSeq (sIf (tOrR (tE boolD (e2 neD (eCall m__law_told (aC (eC (.int 1)) (aC (eVar 12) (aC (eSlice (eVar 11) (oSome (eC (.int 1))) oNone) (aC (eC .none) a0))))) (eN tupD (aC (eC (.str "good")) a0)))) (tE boolD (e2 neD (eCall m__law_told (aC (eC (.int 1)) (aC (eVar 12) (aC (eVar 11) (aC (eC .none) a0))))) (eN tupD (aC (eC (.str "size")) a0))))) (sRet (eC (.bool false))) sNext)
  T_law_21)
def T_law_19 : Frm → Res Fl := (sSeq (sSet 12 (eL (lN (aC (eN tupD (aC (e2 atD (eVar 2) (eC (.int 0))) (aC (eC (.int 1)) (aC (eC .none) a0)))) a0))))
  T_law_20)
def T_law_18 : Frm → Res Fl := (sSeq (sSetL 11 (lComp [14] (Tg.nm 14) (iF walkD (eL (lF (oneL sortL) (aC (eCall m__law_pool (aC (eC (.int 0)) (aC (e2 atD (eVar 1) (eC (.int 111))) (aC (eC (.int 25)) a0)))) a0)))) tYesR (eN tupD (aC (e2 atD (eVar 2) (eC (.int 0))) (aC (eN tupD (aC (e2 addD (eVar 14) (eC (.str "x"))) a0)) a0)))))
  T_law_19)
def T_law_17 : Frm → Res Fl := (sSeq (sIf (tOrR (tE boolD (e2 neD (eVar 9) (eN tupD (aC (eVar 7) (aC (eVar 8) a0))))) (tE boolD (e2 neD (eVar 10) (eVar 6)))) (sRet (eC (.bool false))) sNext)
  T_law_18)
def T_law_16 : Frm → Res Fl := (sSeq (sIf (tE boolD (e2 neD (eCall m__law_told (aC (eC (.int 2)) (aC (eVar 4) (aC (eVar 10) (aC (eVar 9) a0))))) (eCall m__law_change_due (aC (eVar 4) (aC (eVar 6) (aC (eN tupD (aC (eVar 7) (aC (eVar 8) a0))) a0)))))) (sRet (eC (.bool false))) sNext)
  T_law_17)
def T_law_15 : Frm → Res Fl := (sSeq (sSet 10 (eL (lF (oneL itemsD) (aC (eVar 6) a0))))
  T_law_16)
def T_law_14 : Frm → Res Fl := (sFrz 7 (sSeq (sSet 9 (eN tupD (aC (eL (lF (oneL itemsD) (aC (eVar 7) a0))) (aC (eL (lF (oneL itemsD) (aC (eVar 8) a0))) a0))))
  T_law_15))
def T_law_13 : Frm → Res Fl := (sSeq (sSet 8 (eCall m__law_spoilt (aC (eVar 4) (aC (eVar 3) (aC (eVar 8) (aC (eSlice (eVar 1) (oSome (eC (.int 106))) (oSome (eC (.int 109)))) a0))))))
  T_law_14)
def T_law_12 : Frm → Res Fl := (sSeq (sSet 8 (eCall m__law_ascending (aC (eVar 4) (aC (eCall m__law_facts (aC (eVar 4) (aC (eVar 3) (aC (eSlice (eVar 1) (oSome (eC (.int 85))) (oSome (eC (.int 105)))) (aC (e2 modD (eN (oneD int2D) (aC (e2 atD (eVar 1) (eC (.int 105))) a0)) (eC (.int 5))) a0))))) a0))))
  T_law_13)
def T_law_11 : Frm → Res Fl := (sFrz 7 (sSeq (sSetL 7 (lCall m__law_spoilt (aC (eVar 4) (aC (eVar 3) (aC (eVar 7) (aC (eSlice (eVar 1) (oSome (eC (.int 82))) (oSome (eC (.int 85)))) a0))))))
  T_law_12))
def T_law_10 : Frm → Res Fl := (sFrz 7 (sSeq (sSetL 7 (lCall m__law_ascending (aC (eVar 4) (aC (e2 addD (eVar 7) (eCall m__law_facts (aC (eVar 4) (aC (eVar 3) (aC (eSlice (eVar 1) (oSome (eC (.int 112))) (oSome (eC (.int 122)))) (aC (e2 modD (eN (oneD int2D) (aC (e2 atD (eVar 1) (eC (.int 122))) a0)) (eC (.int 3))) a0)))))) a0))))
  T_law_11))
def T_law_9 : Frm → Res Fl := (sSeq (sSetL 7 (lComp [13] (Tg.nm 13) (iF walkD (eVar 6)) (tE boolD (e2 gtD (e2 modD (eN (oneD int2D) (aC (e2 addD (e2 atD (eVar 1) (eC (.int 81))) (eN (oneD lenD) (aC (e2 atD (e2 atD (eVar 13) (eC (.int 1))) (eC (.int 0))) a0))) a0)) (eC (.int 3))) (eC (.int 0)))) (eVar 13)))
  T_law_10)
def T_law_8 : Frm → Res Fl := (sSeq (sSet 6 (eCall m__law_database (aC (eVar 4) (aC (eVar 3) (aC (eSlice (eVar 1) (oSome (eC (.int 55))) (oSome (eC (.int 80)))) (aC (e2 modD (eN (oneD int2D) (aC (e2 atD (eVar 1) (eC (.int 80))) a0)) (eC (.int 6))) a0))))))
  T_law_9)
def T_law_7 : Frm → Res Fl := (sSeq (sIf (tNotR (tE truD (eCall m__law_asked (aC (eVar 4) (aC (eVar 5) a0))))) (sRet (eC (.bool false))) sNext)
  T_law_8)
def T_law_6 : Frm → Res Fl := (sSeq (sSet 5 (eCall m__law_spoilt (aC (eVar 4) (aC (eVar 3) (aC (eCall m__law_spoilt (aC (eVar 4) (aC (eVar 3) (aC (eVar 5) (aC (eSlice (eVar 1) (oSome (eC (.int 49))) (oSome (eC (.int 52)))) a0))))) (aC (eSlice (eVar 1) (oSome (eC (.int 52))) (oSome (eC (.int 55)))) a0))))))
  T_law_7)
def T_law_5 : Frm → Res Fl := (sSeq (sSet 5 (eCall m__law_ascending (aC (eVar 4) (aC (eCall m__law_facts (aC (eVar 4) (aC (eVar 3) (aC (eSlice (eVar 1) (oSome (eC (.int 13))) (oSome (eC (.int 48)))) (aC (e2 modD (eN (oneD int2D) (aC (e2 atD (eVar 1) (eC (.int 48))) a0)) (eC (.int 8))) a0))))) a0))))
  T_law_6)
def T_law_4 : Frm → Res Fl := (sSeq (sSet 4 (eCall m__law_schema (aC (eSlice (eVar 1) (oSome (eC (.int 4))) (oSome (eC (.int 13)))) (aC (eVar 2) a0))))
  T_law_5)
def T_law_3 : Frm → Res Fl := (sSeq (sSet 3 (eCall m__law_pool (aC (e2 atD (eVar 1) (eC (.int 2))) (aC (e2 atD (eVar 1) (eC (.int 3))) (aC (eC (.int 3)) a0)))))
  T_law_4)
def T_law_2 : Frm → Res Fl := (sSeq (sIf (tE boolD (e2 eqD (e2 modD (eN (oneD int2D) (aC (e2 atD (eVar 1) (eC (.int 110))) a0)) (eC (.int 2))) (eC (.int 1)))) (sSet 2 (eBack2 (eVar 2))) sNext)
  T_law_3)
def T_law_1 : Frm → Res Fl := (sSeq (sSet 2 (eCall m__law_pool (aC (e2 atD (eVar 1) (eC (.int 0))) (aC (e2 atD (eVar 1) (eC (.int 1))) (aC (eC (.int 4)) a0)))))
  T_law_2)
def F_law : Frm → Res Fl := (sSeq (sSet 1 (eCall m__law_draws (aC (eVar 0) (aC (eC (.int 130)) a0))))
  T_law_1)
def m_law : List D → Res RV := defM 1 15 F_law
theorem fk_law (z_int : mg "int" = none) (z_len : mg "len" = none) (z_list : mg "list" = none) (z_sorted : mg "sorted" = none) (kn__law_ascending : Known (TabList.mk CL P w) P w K mg base 2 "_law_ascending" ["schema", "facts"] m__law_ascending) (kn__law_asked : Known (TabList.mk CL P w) P w K mg base 8 "_law_asked" ["schema", "facts"] m__law_asked) (kn__law_change_due : Known (TabList.mk CL P w) P w K mg base 3 "_law_change_due" ["schema", "database", "change"] m__law_change_due) (kn__law_database : Known (TabList.mk CL P w) P w K mg base 3 "_law_database" ["schema", "words", "draws", "many"] m__law_database) (kn__law_draws : Known (TabList.mk CL P w) P w K mg base 1 "_law_draws" ["script", "count"] m__law_draws) (kn__law_facts : Known (TabList.mk CL P w) P w K mg base 2 "_law_facts" ["schema", "words", "draws", "many"] m__law_facts) (kn__law_pool : Known (TabList.mk CL P w) P w K mg base 1 "_law_pool" ["first", "second", "many"] m__law_pool) (kn__law_schema : Known (TabList.mk CL P w) P w K mg base 1 "_law_schema" ["draws", "pool"] m__law_schema) (kn__law_spoilt : Known (TabList.mk CL P w) P w K mg base 1 "_law_spoilt" ["schema", "words", "facts", "draws"] m__law_spoilt) (kn__law_told : Known (TabList.mk CL P w) P w K mg base 7 "_law_told" ["which", "schema", "database", "change"] m__law_told) (f : Addr) (cdv : Value) (s : Shared) (H : Hp) (E : XK) (hr : Room 8 (callerA.deeper (envOfC "law" (defScope s_law) s.heap.objs.size f cdv))) : DSs (TabList.mk CL P w) (cxOf (L2N.CX P w) P w K mg base N_law "law" (defScope s_law) f cdv callerA [] s H E) (defBody s_law) F_law := by
  have C : CtE (cxOf (L2N.CX P w) P w K mg base N_law "law" (defScope s_law) f cdv callerA [] s H E) := ⟨rfl, sc_law.nd, room_ct hr⟩
  exact (dss_cons (ds_set 1 (de_call kn__law_draws hr (by decide) (by rfl) (da_cons (de_var 0) (da_cons de_int da_nil))) C)
  (dss_cons (ds_set 2 (de_call kn__law_pool hr (by decide) (by rfl) (da_cons (de_ix (de_var 1) de_int) (da_cons (de_ix (de_var 1) de_int) (da_cons de_int da_nil)))) C)
  (dss_cons (ds_if (dt_cmp (od_eq C) (de_bin od_mod (de_callTy cd_int2 (by rfl) z_int bt_int (da_cons (de_ix (de_var 1) de_int) da_nil)) de_int) de_int) (dss_one (ds_set 2 (de_back2 (de_var 2)) C)) dss_nil)
  (dss_cons (ds_set 3 (de_call kn__law_pool hr (by decide) (by rfl) (da_cons (de_ix (de_var 1) de_int) (da_cons (de_ix (de_var 1) de_int) (da_cons de_int da_nil)))) C)
  (dss_cons (ds_set 4 (de_call kn__law_schema hr (by decide) (by rfl) (da_cons (de_slice (de_var 1) (do_some de_int) (do_some de_int)) (da_cons (de_var 2) da_nil))) C)
  (dss_cons (ds_set 5 (de_call kn__law_ascending hr (by decide) (by rfl) (da_cons (de_var 4) (da_cons (de_call kn__law_facts hr (by decide) (by rfl) (da_cons (de_var 4) (da_cons (de_var 3) (da_cons (de_slice (de_var 1) (do_some de_int) (do_some de_int)) (da_cons (de_bin od_mod (de_callTy cd_int2 (by rfl) z_int bt_int (da_cons (de_ix (de_var 1) de_int) da_nil)) de_int) da_nil))))) da_nil))) C)
  (dss_cons (ds_set 5 (de_call kn__law_spoilt hr (by decide) (by rfl) (da_cons (de_var 4) (da_cons (de_var 3) (da_cons (de_call kn__law_spoilt hr (by decide) (by rfl) (da_cons (de_var 4) (da_cons (de_var 3) (da_cons (de_var 5) (da_cons (de_slice (de_var 1) (do_some de_int) (do_some de_int)) da_nil))))) (da_cons (de_slice (de_var 1) (do_some de_int) (do_some de_int)) da_nil))))) C)
  (dss_cons (ds_if (dt_not (dt_tru (de_call kn__law_asked hr (by decide) (by rfl) (da_cons (de_var 4) (da_cons (de_var 5) da_nil))))) (dss_one (ds_ret de_bl)) dss_nil)
  (dss_cons (ds_set 6 (de_call kn__law_database hr (by decide) (by rfl) (da_cons (de_var 4) (da_cons (de_var 3) (da_cons (de_slice (de_var 1) (do_some de_int) (do_some de_int)) (da_cons (de_bin od_mod (de_callTy cd_int2 (by rfl) z_int bt_int (da_cons (de_ix (de_var 1) de_int) da_nil)) de_int) da_nil))))) C)
  (dss_cons (ds_setLc 7 C (di_any (de_var 6)) (blkOk_by (N := N_law) (sc := defScope s_law) (own := [("fact", 13)]) (by decide +kernel)) (by decide) (fun _ _ _ _ _ => (pg_name (i := 13) C.blk.nd rfl (by first | exact Or.inl rfl | exact Or.inr rfl))) (fun _ _ _ _ _ => (dts_one (dt_cmp od_gt (de_bin od_mod (de_callTy cd_int2 (by rfl) z_int bt_int (da_cons (de_bin od_add (de_ix (de_var 1) de_int) (de_callB cd_len (by rfl) z_len bt_len (da_cons (de_ix (de_ix (de_var 13) de_int) de_int) da_nil))) da_nil)) de_int) de_int))) (fun _ _ _ _ _ => (de_var 13)) (sw_true rfl rfl rfl rfl))
  (dss_frz (i := 7) (dss_cons (ds_setL 7 (dl_call kn__law_ascending hr (by decide) (by rfl) (da_cons (de_var 4) (da_cons (de_bin od_add (de_var 7) (de_call kn__law_facts hr (by decide) (by rfl) (da_cons (de_var 4) (da_cons (de_var 3) (da_cons (de_slice (de_var 1) (do_some de_int) (do_some de_int)) (da_cons (de_bin od_mod (de_callTy cd_int2 (by rfl) z_int bt_int (da_cons (de_ix (de_var 1) de_int) da_nil)) de_int) da_nil)))))) da_nil))) C)
  (dss_frz (i := 7) (dss_cons (ds_setL 7 (dl_call kn__law_spoilt hr (by decide) (by rfl) (da_cons (de_var 4) (da_cons (de_var 3) (da_cons (de_var 7) (da_cons (de_slice (de_var 1) (do_some de_int) (do_some de_int)) da_nil))))) C)
  (dss_cons (ds_set 8 (de_call kn__law_ascending hr (by decide) (by rfl) (da_cons (de_var 4) (da_cons (de_call kn__law_facts hr (by decide) (by rfl) (da_cons (de_var 4) (da_cons (de_var 3) (da_cons (de_slice (de_var 1) (do_some de_int) (do_some de_int)) (da_cons (de_bin od_mod (de_callTy cd_int2 (by rfl) z_int bt_int (da_cons (de_ix (de_var 1) de_int) da_nil)) de_int) da_nil))))) da_nil))) C)
  (dss_cons (ds_set 8 (de_call kn__law_spoilt hr (by decide) (by rfl) (da_cons (de_var 4) (da_cons (de_var 3) (da_cons (de_var 8) (da_cons (de_slice (de_var 1) (do_some de_int) (do_some de_int)) da_nil))))) C)
  (dss_frz (i := 7) (dss_cons (ds_set 9 (de_tup (da_cons (dl_callTy cl_list (by rfl) z_list bt_list (da_cons (de_var 7) da_nil)).de (da_cons (dl_callTy cl_list (by rfl) z_list bt_list (da_cons (de_var 8) da_nil)).de da_nil))) C)
  (dss_cons (ds_set 10 (dl_callTy cl_list (by rfl) z_list bt_list (da_cons (de_var 6) da_nil)).de C)
  (dss_cons (ds_if (dt_cmp (od_ne C) (de_call kn__law_told hr (by decide) (by rfl) (da_cons de_int (da_cons (de_var 4) (da_cons (de_var 10) (da_cons (de_var 9) da_nil))))) (de_call kn__law_change_due hr (by decide) (by rfl) (da_cons (de_var 4) (da_cons (de_var 6) (da_cons (de_tup (da_cons (de_var 7) (da_cons (de_var 8) da_nil))) da_nil))))) (dss_one (ds_ret de_bl)) dss_nil)
  (dss_cons (ds_if (dw_or (dt_cmp (od_ne C) (de_var 9) (de_tup (da_cons (de_var 7) (da_cons (de_var 8) da_nil)))) (dw_or1 (dt_cmp (od_ne C) (de_var 10) (de_var 6)))).dt (dss_one (ds_ret de_bl)) dss_nil)
  (dss_cons (ds_setLc 11 C (di_any (dl_callB (cl_sorted C) (by rfl) z_sorted bt_sorted (da_cons (de_call kn__law_pool hr (by decide) (by rfl) (da_cons de_int (da_cons (de_ix (de_var 1) de_int) (da_cons de_int da_nil)))) da_nil)).de) (blkOk_by (N := N_law) (sc := defScope s_law) (own := [("word", 14)]) (by decide +kernel)) (by decide) (fun _ _ _ _ _ => (pg_name (i := 14) C.blk.nd rfl (by first | exact Or.inl rfl | exact Or.inr rfl))) (fun _ _ _ _ _ => dts_nil) (fun _ _ _ _ _ => (de_tup (da_cons (de_ix (de_var 2) de_int) (da_cons (de_tup (da_cons (de_bin od_add (de_var 14) de_str) da_nil)) da_nil)))) (sw_true rfl rfl rfl rfl))
  (dss_cons (ds_set 12 (dl_lst (da_cons (de_tup (da_cons (de_ix (de_var 2) de_int) (da_cons de_int (da_cons de_non da_nil)))) da_nil)).de C)
  (dss_cons (ds_if (dw_or (dt_cmp (od_ne C) (de_call kn__law_told hr (by decide) (by rfl) (da_cons de_int (da_cons (de_var 12) (da_cons (de_slice (de_var 11) (do_some de_int) do_none) (da_cons de_non da_nil))))) (de_tup (da_cons de_str da_nil))) (dw_or1 (dt_cmp (od_ne C) (de_call kn__law_told hr (by decide) (by rfl) (da_cons de_int (da_cons (de_var 12) (da_cons (de_var 11) (da_cons de_non da_nil))))) (de_tup (da_cons de_str da_nil))))).dt (dss_one (ds_ret de_bl)) dss_nil)
  (dss_one (ds_ret (de_cmp (od_eq C) (de_call kn__law_told hr (by decide) (by rfl) (da_cons de_int (da_cons (de_var 12) (da_cons (de_bin od_add (de_slice (de_var 11) do_none (do_some de_int)) (dl_lst (da_cons (de_tup (da_cons (de_ix (de_var 2) de_int) (da_cons (de_tup (da_cons de_str da_nil)) da_nil))) da_nil)).de) (da_cons de_non da_nil))))) (de_tup (da_cons de_str da_nil)))))))))))))))))))))))))))))
end
theorem q_draws : m__law_draws = Com2.m__law_draws := rfl
theorem q_pool : m__law_pool = Com2.m__law_pool := rfl
theorem q_place : m_place_of = Com2.m_place_of := rfl
theorem q_lplace : m__law_place = Com2.m__law_place := rfl
open Com2 Com3
def inL (c : Nat) : Bool := decide (c ∈ lets.cps.toList)
def wordB (x : Str) : Bool := decide (1 ≤ x.length ∧ x.length ≤ 12) && x.cps.toList.all inL
def wdB : Pyr.D → Bool
  | .str x => wordB x
  | _ => false
def okT (d : Pyr.D) : Prop := (∀ x, d = .str x → x.length ≤ LIM) ∧ ∀ es, d ≠ .dict es
theorem is_word_run (d : Pyr.D) (hd : okT d) : m_is_word [d] = .ok (.val (.bool (wdB d))) := by
  rw [u_is_word]
  rw [defM_eq (np := 1) rfl]
  show outR (F_is_word [.val d, .emp]) = _
  unfold F_is_word
  have other : (∀ x, d ≠ .str x) → outR (sSeq (sIf (tOrR (tNotR (tE truD (Pyr.e1 (isiD "str") (eVar 0)))) (tNotR (tE boolD (eChain leD leD (eC (.int 1)) (eN (oneD lenD) (aC (eVar 0) Pyr.a0)) (eC (.int 12)))))) (sRet (eC (.bool false))) sNext) (sRet (eGx true [1] (Tg.nm 1) (iF walkD (eVar 0)) tYesR (Pyr.e2 inD (eVar 1) (eC (.str "abcdefghijklmnopqrstuvwxyz0123456789"))))) [.val d, .emp]) = .ok (.val (.bool (wdB d))) := fun h => by
    cases d with
    | str x => exact absurd rfl (h x)
    | dict es => exact absurd rfl (hd.2 es)
    | _ => rfl
  cases d with
  | str x =>
    have hx := hd.1 x rfl
    have hlen : (eN (oneD lenD) (aC (eVar 0) Pyr.a0)) [some (.str x), none] = .ok (.int x.length) := (one_ok rfl).trans (len_str hx)
    have hc : (eChain leD leD (eC (.int 1)) (eN (oneD lenD) (aC (eVar 0) Pyr.a0)) (eC (.int 12))) [some (.str x), none] = .ok (.bool (decide (1 ≤ x.length ∧ x.length ≤ 12))) := by
      unfold eChain
      rw [hlen]
      show (if decide ((1 : Int) ≤ (x.length : Int)) = true then Res.ok (PyData.bool (decide ((x.length : Int) ≤ 12))) else .ok (.bool false)) = _
      by_cases h1 : 1 ≤ x.length
      · rw [if_pos (decide_eq_true (by omega))]
        congr 2
        rw [decide_eq_decide]
        omega
      · rw [if_neg (by rw [decide_eq_true_eq]; omega), decide_eq_false (by omega)]
    have ht : (tOrR (tNotR (tE truD (Pyr.e1 (isiD "str") (eVar 0)))) (tNotR (tE boolD (eChain leD leD (eC (.int 1)) (eN (oneD lenD) (aC (eVar 0) Pyr.a0)) (eC (.int 12)))))) [some (.str x), none] = .ok (!decide (1 ≤ x.length ∧ x.length ≤ 12)) :=
      (or_ok (a := false) (b := !decide (1 ≤ x.length ∧ x.length ≤ 12)) rfl fun _ => not_ok ((tE_ok hc).trans rfl)).trans (by rw [Bool.false_or])
    by_cases q : 1 ≤ x.length ∧ x.length ≤ 12
    · rw [decide_eq_true q] at ht
      rw [seq_ok ((if_ok ht).trans rfl), ret_ok (d := .bool (x.cps.toList.all inL))]
      · show Res.ok (RV.val (PyData.bool (x.cps.toList.all inL))) = Res.ok (RV.val (.bool (decide (1 ≤ x.length ∧ x.length ≤ 12) && x.cps.toList.all inL)))
        rw [decide_eq_true q, Bool.true_and]
      · show gxF true (Tg.nm 1) tYesR (Pyr.e2 inD (eVar 1) (eC (.str lets))) [some (.str x), none] (signsD x) = _
        exact gx_signs (i := 1) x _ (fun _ => rfl) fun c => rfl
    · rw [decide_eq_false q] at ht
      rw [seq_ret ((if_ok ht).trans rfl)]
      show Res.ok (RV.val (PyData.bool false)) = Res.ok (RV.val (.bool (decide (1 ≤ x.length ∧ x.length ≤ 12) && x.cps.toList.all inL)))
      rw [decide_eq_false q, Bool.false_and]
  | _ => exact other fun x h => by cases h
def kyF (S : List Tb) (f : Ft) : Option Ft := ((S.find? fun t => decide (t.1 = f.1)).bind fun t => t.2.2).map fun k => (f.1, f.2.take k)
def kyV : Option Ft → Pyr.D
  | none => .none
  | some f => ftD f
theorem find_place {S : List Tb} {x : Str} {k : Nat} (h : plc S x = some k) : ∃ hk : k < S.length, S[k].1 = x ∧ S.find? (fun t => decide (t.1 = x)) = some S[k] := by
  obtain ⟨hk, e⟩ := plc_some h
  refine ⟨hk, e, ?_⟩
  rw [List.find?_eq_some_iff_getElem]
  refine ⟨by simpa using e, k, hk, rfl, fun j hj => ?_⟩
  have := plc_least h j hj
  simp only [List.getElem?_eq_getElem (Nat.lt_trans hj hk), Option.map_some, ne_eq, Option.some.injEq] at this
  simpa using this
theorem slice_row (r : List Str) (k : Nat) : sliceD (.tuple (r.map .str)) none (some (k : Int)) = .ok (.tuple ((r.take k).map .str)) := by
  refine congrArg (fun z => Res.ok (PyData.tuple z)) ?_
  show cutG (r.map PyData.str) none (some (k : Int)) = _
  unfold cutG
  simp only [HT.sIx_nat, List.map_take, List.length_map]
  show List.take (min k r.length - 0) (List.drop 0 (List.map PyData.str r)) = List.take k (List.map PyData.str r)
  rw [Nat.sub_zero, List.drop_zero]
  by_cases h : k ≤ r.length
  · rw [Nat.min_eq_left h]
  · rw [Nat.min_eq_right (by omega), List.take_of_length_le (by rw [List.length_map]; exact Nat.le_refl _), List.take_of_length_le (by rw [List.length_map]; omega)]
theorem keyof_run (S : List Tb) (f : Ft) (hS : S.length ≤ 1000) (h : ∃ t ∈ S, t.1 = f.1) : m_key_of [.list (S.map tbD), ftD f] = .ok (.val (kyV (kyF S f))) := by
  obtain ⟨k, hk⟩ := plc_in h
  obtain ⟨k1, k2, k3⟩ := find_place hk
  have hp := place_run S f.1 hS
  rw [hk, ← q_place] at hp
  have hat := tb_at (S := S) k1
  rw [u_key_of]
  rw [defM_eq (np := 2) rfl]
  show outR (F_key_of [.val (.list (S.map tbD)), .val (.tuple [.str f.1, .tuple (f.2.map .str)]), .emp, .emp, .emp]) = _
  unfold F_key_of
  rw [seq_ok (ρ' := [.val (.list (S.map tbD)), .val (.tuple [.str f.1, .tuple (f.2.map .str)]), .emp, .val (.str f.1), .val (.tuple (f.2.map .str))]) (by dsimp! [eL, setsF])]
  have ek : kyF S f = (S[k].2.2).map fun k => (f.1, f.2.take k) := by unfold kyF; rw [k3]; rfl
  rw [ek]
  cases e : S[k].2.2 with
  | none =>
    have t2 : atD (tbD S[k]) (.int 2) = .ok .none := by rw [tb_2, e]; rfl
    rw [seq_ok (ρ' := [.val (.list (S.map tbD)), .val (.tuple [.str f.1, .tuple (f.2.map .str)]), .val .none, .val (.str f.1), .val (.tuple (f.2.map .str))]) (by dsimp! [eL, hp, hat, t2])]
    dsimp! [eL, isBD]
    rfl
  | some j =>
    have t2 : atD (tbD S[k]) (.int 2) = .ok (.int (j : Int)) := by rw [tb_2, e]; rfl
    have sl := slice_row f.2 j
    rw [seq_ok (ρ' := [.val (.list (S.map tbD)), .val (.tuple [.str f.1, .tuple (f.2.map .str)]), .val (.int (j : Int)), .val (.str f.1), .val (.tuple (f.2.map .str))]) (by dsimp! [eL, hp, hat, t2])]
    dsimp! [eL, isBD, optI, sl]
    rfl
def sameF (S : List Tb) (f g : Ft) : Bool := decide (kyF S f ≠ none) && decide (kyF S f = kyF S g)
theorem let_eq {x y : Str} (hx : Wd x) (hy : Wd y) : eqD (.str x) (.str y) = .ok (.bool (decide (x = y))) := strE.eqD hx hy
theorem key_at2 {S : List Tb} (nd : (S.map (·.1)).Nodup) {t : Tb} (ht : t ∈ S) {f : Ft} (e : t.1 = f.1) : kyF S f = t.2.2.map fun k => (f.1, f.2.take k) := by
  unfold kyF
  cases q : S.find? fun t => decide (t.1 = f.1) with
  | none =>
    have := List.find?_eq_none.mp q t ht
    simp [e] at this
  | some u =>
    have h1 := List.find?_some q
    have h2 := List.mem_of_find?_eq_some q
    have e2 : u = t := same_fst nd h2 ht ((of_decide_eq_true h1).trans e.symm)
    rw [e2]
    rfl
theorem lsame_run (S : List Tb) (f g : Ft) (hW : ∀ t ∈ S, Wd t.1) (nd : (S.map (·.1)).Nodup) (hf : FtOk f) (hg : FtOk g) (h : ∃ t ∈ S, t.1 = f.1) : m__law_same_key [.list (S.map tbD), ftD f, ftD g] = .ok (.val (.bool (sameF S f g))) := by
  rw [u__law_same_key]
  rw [defM_eq (np := 3) rfl]
  show outR (F__law_same_key [.val (.list (S.map tbD)), .val (.tuple [.str f.1, .tuple (f.2.map .str)]), .val (.tuple [.str g.1, .tuple (g.2.map .str)]), .emp, .emp, .emp]) = _
  unfold F__law_same_key
  have hfind := forF_find (t := Tg.tp [3, 4, 5]) (F := B__law_same_key_0) (ρ := [.val (.list (S.map tbD)), .val (.tuple [.str f.1, .tuple (f.2.map .str)]), .val (.tuple [.str g.1, .tuple (g.2.map .str)]), .emp, .emp, .emp]) tbD (fun t => decide (f.1 = t.1) && (decide (g.1 = t.1) && decide (t.2.2 ≠ none)))
    (fun t => .val (.bool (decide (f.2.take (t.2.2.getD 0) = g.2.take (t.2.2.getD 0))))) S fun t ht => by
      have e1 := let_eq hf.1 (hW t ht)
      have e2 := let_eq hg.1 (hW t ht)
      have nb : notBD (kyD t.2.2) .none = .ok (.bool (decide (t.2.2 ≠ none))) := by cases t.2.2 <;> rfl
      refine ⟨_, rfl, fun hp => ?_, fun hp => .inl ?_⟩
      · simp only [Bool.and_eq_true, decide_eq_true_eq] at hp
        obtain ⟨p1, p2, p3⟩ := hp
        cases hk : t.2.2 with
        | none => exact absurd hk p3
        | some k =>
          have s1 := slice_row f.2 k
          have s2 := slice_row g.2 k
          have er : eqD (.tuple ((f.2.take k).map .str)) (.tuple ((g.2.take k).map .str)) = .ok (.bool (decide (f.2.take k = g.2.take k))) := rwE.eqD (fun w hw => hf.2 w (List.mem_of_mem_take hw)) (fun w hw => hg.2 w (List.mem_of_mem_take hw))
          rw [hk] at nb
          have nb : notBD (.int (k : Int)) .none = .ok (.bool true) := nb
          have hk' : kyD t.2.2 = .int (k : Int) := by rw [hk]; rfl
          rw [decide_eq_true p1] at e1
          rw [decide_eq_true p2] at e2
          rw [hk] at hk'
          unfold B__law_same_key_0
          dsimp! [eL, setsF, hk', e1, e2, nb, optI, s1, s2, er]
          try rfl
      · have nb' := nb
        unfold B__law_same_key_0
        by_cases p1 : f.1 = t.1
        · rw [decide_eq_true p1] at e1
          by_cases p2 : g.1 = t.1
          · rw [decide_eq_true p2] at e2
            have p3 : t.2.2 = none := by simpa [p1, p2] using hp
            rw [p3] at nb ⊢
            have nb : notBD .none .none = .ok (.bool false) := rfl
            have hk' : kyD none = PyData.none := rfl
            dsimp! [eL, setsF, hk', e1, e2, nb]
            try rfl
          · rw [decide_eq_false p2] at e2
            dsimp! [eL, setsF, e1, e2]
            try rfl
        · rw [decide_eq_false p1] at e1
          dsimp! [eL, setsF, e1]
          try rfl
  have hi : (iF walkD (eVar 0)) (purE [.val (.list (S.map tbD)), .val (.tuple [.str f.1, .tuple (f.2.map .str)]), .val (.tuple [.str g.1, .tuple (g.2.map .str)]), .emp, .emp, .emp]) = .ok (S.map tbD) := rfl
  show outR (sSeq (sFor (Tg.tp [3, 4, 5]) (iF walkD (eVar 0)) B__law_same_key_0) _ [.val (.list (S.map tbD)), .val (.tuple [.str f.1, .tuple (f.2.map .str)]), .val (.tuple [.str g.1, .tuple (g.2.map .str)]), .emp, .emp, .emp]) = _
  obtain ⟨t0, ht0, et0⟩ := h
  cases q : S.find? (fun t => decide (f.1 = t.1) && (decide (g.1 = t.1) && decide (t.2.2 ≠ none))) with
  | some t =>
    rw [q] at hfind
    rw [seq_ret ((for_ok hi).trans hfind)]
    have h1 := List.find?_some q
    have h2 := List.mem_of_find?_eq_some q
    simp only [Bool.and_eq_true, decide_eq_true_eq] at h1
    obtain ⟨p1, p2, p3⟩ := h1
    have a := key_at2 nd h2 p1.symm
    have b := key_at2 nd h2 p2.symm
    cases hk : t.2.2 with
    | none => exact absurd hk p3
    | some k =>
      rw [hk] at a b
      unfold sameF
      rw [a, b]
      show Res.ok (RV.val (PyData.bool (decide (f.2.take k = g.2.take k)))) = _
      congr 3
      have e : f.1 = g.1 := p1.trans p2.symm
      simp [e]
  | none =>
    rw [q] at hfind
    rw [seq_ok ((for_ok hi).trans hfind)]
    have no : sameF S f g = false := by
      rw [Bool.eq_false_iff]
      intro z
      unfold sameF at z
      simp only [Bool.and_eq_true, decide_eq_true_eq] at z
      obtain ⟨z1, z2⟩ := z
      have a := key_at2 nd ht0 et0
      cases hk : t0.2.2 with
      | none =>
        rw [hk] at a
        exact z1 a
      | some k =>
        rw [hk] at a
        rw [a] at z2
        have e : g.1 = f.1 := by
          unfold kyF at z2
          cases r : (S.find? fun t => decide (t.1 = g.1)).bind fun t => t.2.2 with
          | none => rw [r] at z2; cases z2
          | some j =>
            rw [r] at z2
            have := Option.some.inj z2
            exact (congrArg Prod.fst this).symm
        have := List.find?_eq_none.mp q t0 ht0
        simp [et0, e, hk] at this
    rw [no]
    rfl
def stepC (S : List Tb) (s : List Ft × List (Ft × Ft)) (f : Ft) : List Ft × List (Ft × Ft) := match kyF S f with
  | none => s
  | some x => match s.1.find? (fun g => decide (kyF S g = some x)) with
    | some g => (s.1, if g = f then s.2 else s.2 ++ [(g, f)])
    | none => (s.1 ++ [f], s.2)
def entD (S : List Tb) (f : Ft) : Pyr.D := .tuple [kyV (kyF S f), ftD f]
theorem keyT_ft (f : Ft) : keyT (ftD f) = true := by
  unfold keyT
  rw [show keyB (ftD f) = true from keyB_ft f, show tupB (ftD f) = true from rfl, decide_eq_true (dep_ft f)]
  rfl
theorem nk_ft {x y : Ft} : nk (ftD x) = nk (ftD y) ↔ x = y := ⟨fun h => ftE.inj _ _ (nk_inj _ _ (keyB_ft x) (keyB_ft y) h), fun h => by rw [h]⟩
theorem dGet_ent (S : List Tb) (x : Ft) : ∀ es : List Ft, (∀ g ∈ es, kyF S g ≠ none) → dGet (es.map (entD S)) (ftD x) = (es.find? fun g => decide (kyF S g = some x)).map ftD
  | [], _ => rfl
  | g :: es, h => by
    have hg := h g List.mem_cons_self
    cases q : kyF S g with
    | none => exact absurd q hg
    | some y =>
      have ih := dGet_ent S x es fun z hz => h z (List.mem_cons_of_mem _ hz)
      show (if nk (kyV (kyF S g)) = nk (ftD x) then some (ftD g) else dGet (es.map (entD S)) (ftD x)) = _
      rw [q, List.find?_cons, q]
      change (if nk (ftD y) = nk (ftD x) then some (ftD g) else dGet (es.map (entD S)) (ftD x)) = _
      by_cases e : y = x
      · subst e
        rw [if_pos rfl]
        simp
      · rw [if_neg fun z => e (nk_ft.mp z), ih]
        simp [e]
def pairD (p : Ft × Ft) : Pyr.D := .tuple [ftD p.1, ftD p.2]
def frC (S : List Tb) (fs : List Ft) (s : List Ft × List (Ft × Ft)) : Frm := [.val (.list (S.map tbD)), .val (.list (fs.map ftD)), .own (.set (.none :: s.1.map (entD S))), .own (.lst (s.2.map pairD)), .emp, .emp]
theorem ifSd_ok {i : Nat} {ft : En → Res Bool} {fk fv fc : En → Res Pyr.D} {F1 F2 : Frm → Res Fl} {ρ : Frm} {es es' : List Pyr.D} {k v r c : Pyr.D} {b : Bool} (h1 : ft (frzE ρ) = .ok true) (h2 : dictF i ρ = .ok es) (h3 : fk (purE ρ) = .ok k) (h4 : fv (purE ρ) = .ok v) (hc : (keyT k && tupB v && decide (es.length ≤ 900)) = true) (hp : dPut es k v = (es', r))
    (h5 : fc (purE (ρ.set i (.own (.set (.none :: es'))))) = .ok c) (h6 : neD r c = .ok (.bool b)) : sIfSd i ft fk fv fc F1 F2 ρ = if b then F1 (ρ.set i (.own (.set (.none :: es')))) else F2 (ρ.set i (.own (.set (.none :: es')))) := by
  unfold sIfSd
  rw [evT_ok h1]
  show (dictF i ρ).bind _ = _
  rw [h2]
  show (evP fk ρ).bind _ = _
  rw [evP_ok h3]
  show (evP fv ρ).bind _ = _
  rw [evP_ok h4]
  show (if (keyT k && tupB v && decide (es.length ≤ 900)) = true then _ else _) = _
  rw [if_pos hc, hp]
  show (evP fc (ρ.set i (.own (.set (.none :: es'))))).bind _ = _
  rw [evP_ok h5]
  show (neD r c).bind _ = _
  rw [h6]
  rfl
theorem turn_run (S : List Tb) (fs : List Ft) (s : List Ft × List (Ft × Ft)) (f : Ft) (hS : S.length ≤ 1000) (hf : FtOk f) (h : ∃ t ∈ S, t.1 = f.1) (i1 : ∀ g ∈ s.1, kyF S g ≠ none ∧ FtOk g) (i2 : s.1.length ≤ 800) (i3 : s.2.length ≤ 800) :
    B_key_clashes_0 [.val (.list (S.map tbD)), .val (.list (fs.map ftD)), .own (.set (.none :: s.1.map (entD S))), .own (.lst (s.2.map pairD)), .val (.tuple [.str f.1, .tuple (f.2.map .str)]), .emp] = .ok (.next (frC S fs (stepC S s f))) := by
  have k1 : m_key_of [.list (S.map tbD), .tuple [.str f.1, .tuple (f.2.map .str)]] = _ := keyof_run S f hS h
  unfold B_key_clashes_0
  cases q : kyF S f with
  | none =>
    rw [q] at k1
    have k1 : m_key_of [.list (S.map tbD), .tuple [.str f.1, .tuple (f.2.map .str)]] = .ok (.val .none) := k1
    have nb : (tE boolD (Pyr.e2 notBD (eVar 5) (eC .none))) (frzE [.val (.list (S.map tbD)), .val (.list (fs.map ftD)), .own (.set (.none :: s.1.map (entD S))), .own (.lst (s.2.map pairD)), .val (.tuple [.str f.1, .tuple (f.2.map .str)]), .val .none]) = .ok false := rfl
    rw [seq_ok (ρ' := [.val (.list (S.map tbD)), .val (.list (fs.map ftD)), .own (.set (.none :: s.1.map (entD S))), .own (.lst (s.2.map pairD)), .val (.tuple [.str f.1, .tuple (f.2.map .str)]), .val .none]) (by dsimp! [eL, k1])]
    have st : stepC S s f = s := by unfold stepC; rw [q]
    rw [st]
    rw [seq_ok (ρ' := [.val (.list (S.map tbD)), .val (.list (fs.map ftD)), .own (.set (.none :: s.1.map (entD S))), .own (.lst (s.2.map pairD)), .val (.tuple [.str f.1, .tuple (f.2.map .str)]), .val .none]) (by unfold sIfSd; rw [evT_ok nb]; rfl)]
    rfl
  | some x =>
    rw [q] at k1
    have k1 : m_key_of [.list (S.map tbD), .tuple [.str f.1, .tuple (f.2.map .str)]] = .ok (.val (.tuple [.str x.1, .tuple (x.2.map .str)])) := k1
    rw [seq_ok (ρ' := [.val (.list (S.map tbD)), .val (.list (fs.map ftD)), .own (.set (.none :: s.1.map (entD S))), .own (.lst (s.2.map pairD)), .val (ftD f), .val (ftD x)]) (by dsimp! [eL, k1]; rfl)]
    have nb : (tE boolD (Pyr.e2 notBD (eVar 5) (eC .none))) (frzE [.val (.list (S.map tbD)), .val (.list (fs.map ftD)), .own (.set (.none :: s.1.map (entD S))), .own (.lst (s.2.map pairD)), .val (ftD f), .val (ftD x)]) = .ok true := rfl
    have gg := dGet_ent S x s.1 fun g hg => (i1 g hg).1
    have cond : (keyT (ftD x) && tupB (ftD f) && decide ((s.1.map (entD S)).length ≤ 900)) = true := by
      rw [keyT_ft, show tupB (ftD f) = true from rfl, List.length_map, decide_eq_true (by omega : s.1.length ≤ 900)]
      rfl
    cases r : s.1.find? (fun g => decide (kyF S g = some x)) with
    | some g =>
      rw [r] at gg
      have gg : dGet (s.1.map (entD S)) (ftD x) = some (ftD g) := gg
      have mg := List.mem_of_find?_eq_some r
      have hp : dPut (s.1.map (entD S)) (ftD x) (ftD f) = (s.1.map (entD S), ftD g) := by unfold dPut; rw [gg]
      have h6 : neD (ftD g) (ftD f) = .ok (.bool (!decide (g = f))) := ftE.neD (i1 g mg).2 hf
      have go := ifSd_ok (F1 := sApp 3 (eN tupD (aC (eDk 2 (eVar 5)) (aC (eVar 4) Pyr.a0)))) (F2 := sNext) (fc := eVar 4) nb (show dictF 2 _ = .ok (s.1.map (entD S)) from rfl) (show (eVar 5) _ = .ok (ftD x) from rfl) (show (eVar 4) _ = .ok (ftD f) from rfl) cond hp (show (eVar 4) _ = .ok (ftD f) from rfl) h6
      by_cases e : g = f
      · have st : stepC S s f = s := by unfold stepC; rw [q]; dsimp only; rw [r]; dsimp only; rw [if_pos e]
        rw [decide_eq_true e] at go
        rw [st, seq_ok (ρ' := [.val (.list (S.map tbD)), .val (.list (fs.map ftD)), .own (.set (.none :: s.1.map (entD S))), .own (.lst (s.2.map pairD)), .val (ftD f), .val (ftD x)]) (go.trans rfl)]
        rfl
      · have st : stepC S s f = (s.1, s.2 ++ [(g, f)]) := by unfold stepC; rw [q]; dsimp only; rw [r]; dsimp only; rw [if_neg e]
        rw [decide_eq_false e] at go
        have dk : dkIx (.none :: s.1.map (entD S)) (ftD x) = .ok (ftD g) := by
          show (if keyT (ftD x) then (match dGet (s.1.map (entD S)) (ftD x) with
            | some v => Res.ok v
            | none => .bad) else .bad) = _
          rw [if_pos (keyT_ft x), gg]
        have la : (s.2.map pairD).length = s.2.length := List.length_map _
        have he : (eN tupD (aC (eDk 2 (eVar 5)) (aC (eVar 4) Pyr.a0))) (purE [.val (.list (S.map tbD)), .val (.list (fs.map ftD)), .own (.set (.none :: s.1.map (entD S))), .own (.lst (s.2.map pairD)), .val (ftD f), .val (ftD x)]) = .ok (pairD (g, f)) := by
          refine (eN_ok (aC_ok (x := ftD g) ?_ (aC_ok (x := ftD f) rfl rfl))).trans rfl
          exact dk
        have ap : sApp 3 (eN tupD (aC (eDk 2 (eVar 5)) (aC (eVar 4) Pyr.a0))) [.val (.list (S.map tbD)), .val (.list (fs.map ftD)), .own (.set (.none :: s.1.map (entD S))), .own (.lst (s.2.map pairD)), .val (ftD f), .val (ftD x)] = .ok (.next [.val (.list (S.map tbD)), .val (.list (fs.map ftD)), .own (.set (.none :: s.1.map (entD S))), .own (.lst (s.2.map pairD ++ [pairD (g, f)])), .val (ftD f), .val (ftD x)]) := by
          unfold sApp
          show (evP _ _).bind _ = _
          rw [evP_ok he]
          show okL ((s.2.map pairD).length + 1) _ = _
          rw [okL_ok (by rw [la]; show _ ≤ 100000; omega)]
          rfl
        rw [st, seq_ok (ρ' := [.val (.list (S.map tbD)), .val (.list (fs.map ftD)), .own (.set (.none :: s.1.map (entD S))), .own (.lst (s.2.map pairD ++ [pairD (g, f)])), .val (ftD f), .val (ftD x)]) (go.trans ap)]
        show Res.ok (Fl.next _) = _
        unfold frC
        rw [List.map_append]
        rfl
    | none =>
      rw [r] at gg
      have gg : dGet (s.1.map (entD S)) (ftD x) = none := gg
      have ee : entD S f = .tuple [ftD x, ftD f] := by unfold entD; rw [q]; rfl
      have hp : dPut (s.1.map (entD S)) (ftD x) (ftD f) = ((s.1 ++ [f]).map (entD S), ftD f) := by unfold dPut; rw [gg, List.map_append, List.map_cons, ee]; rfl
      have h6 : neD (ftD f) (ftD f) = .ok (.bool false) := by rw [ftE.neD hf hf]; simp
      have go := ifSd_ok (F1 := sApp 3 (eN tupD (aC (eDk 2 (eVar 5)) (aC (eVar 4) Pyr.a0)))) (F2 := sNext) (fc := eVar 4) nb (show dictF 2 _ = .ok (s.1.map (entD S)) from rfl) (show (eVar 5) _ = .ok (ftD x) from rfl) (show (eVar 4) _ = .ok (ftD f) from rfl) cond hp (show (eVar 4) _ = .ok (ftD f) from rfl) h6
      have st : stepC S s f = (s.1 ++ [f], s.2) := by unfold stepC; rw [q]; dsimp only; rw [r]
      rw [st, seq_ok (ρ' := [.val (.list (S.map tbD)), .val (.list (fs.map ftD)), .own (.set (.none :: (s.1 ++ [f]).map (entD S))), .own (.lst (s.2.map pairD)), .val (ftD f), .val (ftD x)]) (go.trans rfl)]
      rfl
theorem step_len (S : List Tb) (s : List Ft × List (Ft × Ft)) (f : Ft) : (stepC S s f).1.length ≤ s.1.length + 1 ∧ (stepC S s f).2.length ≤ s.2.length + 1 := by
  unfold stepC
  split
  · omega
  · split
    · split
      · exact ⟨Nat.le_succ _, Nat.le_succ _⟩
      · exact ⟨Nat.le_succ _, by simp⟩
    · exact ⟨by simp, Nat.le_succ _⟩
theorem fold_len (S : List Tb) : ∀ (xs : List Ft) (s : List Ft × List (Ft × Ft)), (xs.foldl (stepC S) s).1.length ≤ s.1.length + xs.length ∧ (xs.foldl (stepC S) s).2.length ≤ s.2.length + xs.length
  | [], s => ⟨Nat.le_refl _, Nat.le_refl _⟩
  | f :: xs, s => by
    have h1 := step_len S s f
    have h2 := fold_len S xs (stepC S s f)
    simp only [List.foldl_cons, List.length_cons]
    omega
structure Cl (S : List Tb) (pre : List Ft) (s : List Ft × List (Ft × Ft)) : Prop where
  a : ∀ g ∈ s.1, g ∈ pre ∧ kyF S g ≠ none
  b : ∀ g ∈ s.1, ∀ g' ∈ s.1, kyF S g = kyF S g' → g = g'
  c : ∀ f ∈ pre, kyF S f ≠ none → ∃ g ∈ s.1, kyF S g = kyF S f ∧ (s.2 = [] → g = f)
  d : s.2 ≠ [] → ∃ f ∈ pre, ∃ g ∈ pre, sameF S f g = true ∧ f ≠ g
theorem Cl.step {S : List Tb} {pre : List Ft} {s : List Ft × List (Ft × Ft)} (x : Cl S pre s) (f : Ft) : Cl S (pre ++ [f]) (stepC S s f) := by
  have up : ∀ {g : Ft}, g ∈ pre → g ∈ pre ++ [f] := fun h => List.mem_append_left _ h
  have last : f ∈ pre ++ [f] := List.mem_append_right _ List.mem_cons_self
  have d' : s.2 ≠ [] → ∃ f' ∈ pre ++ [f], ∃ g ∈ pre ++ [f], sameF S f' g = true ∧ f' ≠ g := fun h => by
    obtain ⟨f', h1, g, h2, h3⟩ := x.d h
    exact ⟨f', up h1, g, up h2, h3⟩
  unfold stepC
  cases q : kyF S f with
  | none =>
    dsimp only
    refine ⟨fun g hg => ⟨up (x.a g hg).1, (x.a g hg).2⟩, x.b, fun f' hf' hn => ?_, d'⟩
    rcases List.mem_append.mp hf' with h | h
    · exact x.c f' h hn
    · rw [List.mem_singleton.mp h] at hn
      exact absurd q hn
  | some k =>
    dsimp only
    cases r : s.1.find? (fun g => decide (kyF S g = some k)) with
    | some g =>
      dsimp only
      have mg := List.mem_of_find?_eq_some r
      have kg : kyF S g = some k := by simpa using List.find?_some r
      by_cases e : g = f
      · rw [if_pos e]
        refine ⟨fun g hg => ⟨up (x.a g hg).1, (x.a g hg).2⟩, x.b, fun f' hf' hn => ?_, d'⟩
        rcases List.mem_append.mp hf' with h | h
        · exact x.c f' h hn
        · rw [List.mem_singleton.mp h]
          exact ⟨g, mg, by rw [e], fun _ => e⟩
      · rw [if_neg e]
        refine ⟨fun g hg => ⟨up (x.a g hg).1, (x.a g hg).2⟩, x.b, fun f' hf' hn => ?_, fun _ => ⟨g, up (x.a g mg).1, f, last, ?_, e⟩⟩
        · rcases List.mem_append.mp hf' with h | h
          · obtain ⟨g', h1, h2, _⟩ := x.c f' h hn
            exact ⟨g', h1, h2, fun z => by simp at z⟩
          · rw [List.mem_singleton.mp h]
            exact ⟨g, mg, by rw [kg, q], fun z => by simp at z⟩
        · unfold sameF
          rw [kg, q]
          simp
    | none =>
      dsimp only
      have no : ∀ g ∈ s.1, kyF S g ≠ some k := fun g hg => by simpa using List.find?_eq_none.mp r g hg
      refine ⟨fun g hg => ?_, fun g hg g' hg' e => ?_, fun f' hf' hn => ?_, d'⟩
      · rcases List.mem_append.mp hg with h | h
        · exact ⟨up (x.a g h).1, (x.a g h).2⟩
        · rw [List.mem_singleton.mp h]
          exact ⟨last, by rw [q]; simp⟩
      · rcases List.mem_append.mp hg with h | h
        · rcases List.mem_append.mp hg' with h' | h'
          · exact x.b g h g' h' e
          · rw [List.mem_singleton.mp h', q] at e
            exact absurd e (no g h)
        · rcases List.mem_append.mp hg' with h' | h'
          · rw [List.mem_singleton.mp h, q] at e
            exact absurd e.symm (no g' h')
          · rw [List.mem_singleton.mp h, List.mem_singleton.mp h']
      · rcases List.mem_append.mp hf' with h | h
        · obtain ⟨g, h1, h2⟩ := x.c f' h hn
          exact ⟨g, List.mem_append_left _ h1, h2⟩
        · rw [List.mem_singleton.mp h]
          exact ⟨f, List.mem_append_right _ List.mem_cons_self, rfl, fun _ => rfl⟩
theorem Cl.all (S : List Tb) : ∀ (xs pre : List Ft) (s : List Ft × List (Ft × Ft)), Cl S pre s → Cl S (pre ++ xs) (xs.foldl (stepC S) s)
  | [], pre, s, h => by rw [List.append_nil]; exact h
  | f :: xs, pre, s, h => by
    have := Cl.all S xs (pre ++ [f]) (stepC S s f) (h.step f)
    rw [List.append_assoc] at this
    exact this
def Holds (S : List Tb) (fs : List Ft) : Prop := ∀ f ∈ fs, ∀ g ∈ fs, sameF S f g = true → f = g
theorem clash_iff (S : List Tb) (fs : List Ft) : (fs.foldl (stepC S) ([], [])).2 = [] ↔ Holds S fs := by
  have x := Cl.all S fs [] ([], []) ⟨fun g h => (by cases h), fun g h => (by cases h), fun f h => (by cases h), fun h => absurd rfl h⟩
  rw [List.nil_append] at x
  constructor
  · intro e f hf g hg h
    unfold sameF at h
    simp only [Bool.and_eq_true, decide_eq_true_eq] at h
    obtain ⟨a, a1, a2, a3⟩ := x.c f hf h.1
    obtain ⟨b, b1, b2, b3⟩ := x.c g hg (by rw [← h.2]; exact h.1)
    rw [← a3 e, ← b3 e]
    exact x.b a a1 b b1 (a2.trans (h.2.trans b2.symm))
  · intro h
    by_cases e : (fs.foldl (stepC S) ([], [])).2 = []
    · exact e
    · obtain ⟨f, hf, g, hg, h1, h2⟩ := x.d e
      exact absurd (h f hf g hg h1) h2
theorem fold_ok (S : List Tb) : ∀ (xs : List Ft) (s : List Ft × List (Ft × Ft)), (∀ f ∈ xs, FtOk f) → (∀ g ∈ s.1, kyF S g ≠ none ∧ FtOk g) → ∀ g ∈ (xs.foldl (stepC S) s).1, kyF S g ≠ none ∧ FtOk g
  | [], s, _, h => h
  | f :: xs, s, hx, h => by
    refine fold_ok S xs (stepC S s f) (fun g hg => hx g (List.mem_cons_of_mem _ hg)) fun g hg => ?_
    unfold stepC at hg
    cases q : kyF S f with
    | none => rw [q] at hg; exact h g hg
    | some k =>
      rw [q] at hg
      dsimp only at hg
      cases r : s.1.find? (fun g => decide (kyF S g = some k)) with
      | some z => rw [r] at hg; exact h g hg
      | none =>
        rw [r] at hg
        rcases List.mem_append.mp hg with z | z
        · exact h g z
        · rw [List.mem_singleton.mp z]
          exact ⟨by rw [q]; simp, hx f List.mem_cons_self⟩
theorem clashes_run (S : List Tb) (fs : List Ft) (hS : S.length ≤ 1000) (hl : fs.length ≤ 100) (hf : ∀ f ∈ fs, FtOk f ∧ ∃ t ∈ S, t.1 = f.1) : m_key_clashes [.list (S.map tbD), .list (fs.map ftD)] = .ok (.own ((fs.foldl (stepC S) ([], [])).2.map pairD)) := by
  rw [u_key_clashes]
  rw [defM_eq (np := 2) rfl]
  show outR (F_key_clashes [.val (.list (S.map tbD)), .val (.list (fs.map ftD)), .emp, .emp, .emp, .emp]) = _
  unfold F_key_clashes
  rw [seq_ok (ρ' := [.val (.list (S.map tbD)), .val (.list (fs.map ftD)), .own (.set [.none]), .emp, .emp, .emp]) rfl]
  unfold T_key_clashes_1
  rw [seq_ok (setL_ok (d := []) rfl)]
  obtain ⟨s, e, es⟩ := forF_exL (t := Tg.nm 4) (F := B_key_clashes_0) (frC S fs) (fun k s => s = (fs.take k).foldl (stepC S) ([], [])) (fs.map ftD) 0 ([], []) rfl fun k s d hd i => by
    rw [List.getElem?_map] at hd
    cases hk : fs[k]? with
    | none => rw [hk] at hd; cases hd
    | some f =>
      rw [hk] at hd
      cases hd
      have mf := List.mem_of_getElem? hk
      rw [Nat.zero_add] at i
      have ln := fold_len S (fs.take k) ([], [])
      rw [← i] at ln
      have lt : (fs.take k).length ≤ fs.length := by rw [List.length_take]; omega
      have ok := fold_ok S (fs.take k) ([], []) (fun g hg => (hf g (List.mem_of_mem_take hg)).1) (fun g hg => nomatch hg)
      rw [← i] at ok
      simp only [List.length_nil, Nat.zero_add] at ln
      refine ⟨stepC S s f, _, rfl, .inl (turn_run S fs s f hS (hf f mf).1 (hf f mf).2 ok (by omega) (by omega)), ?_⟩
      obtain ⟨hkl, ek⟩ := List.getElem?_eq_some_iff.mp hk
      rw [Nat.zero_add, List.take_succ_eq_append_getElem hkl, List.foldl_append, ← i, ek]
      rfl
  rw [Nat.zero_add, List.length_map, List.take_length] at es
  rw [es] at e
  unfold T_key_clashes_2
  have hi : (iF walkD (eVar 1)) (purE [.val (.list (S.map tbD)), .val (.list (fs.map ftD)), .own (.set [.none]), .own (.lst []), .emp, .emp]) = .ok (fs.map ftD) := rfl
  show outR (sSeq (sFor (Tg.nm 4) (iF walkD (eVar 1)) B_key_clashes_0) T_key_clashes_3 [.val (.list (S.map tbD)), .val (.list (fs.map ftD)), .own (.set [.none]), .own (.lst []), .emp, .emp]) = _
  rw [seq_ok ((for_ok hi).trans e)]
  rfl
theorem ft_ok {S : List Tb} {ws : List Str} (hW : ∀ t ∈ S, Wd t.1) (hws : ∀ w ∈ ws, Wd w) {f : Ft} (h : FtIn S ws f) : FtOk f ∧ ∃ t ∈ S, t.1 = f.1 := by
  obtain ⟨⟨t, ht, en, _⟩, hw⟩ := h
  exact ⟨⟨en ▸ hW t ht, fun w h => hws w (hw w h)⟩, t, ht, en⟩
theorem key_le (S : List Tb) (f : Ft) : (keyP S f).1 ≤ S.length := by
  show (plc S f.1).getD S.length ≤ _
  cases q : plc S f.1 with
  | none => exact Nat.le_refl _
  | some k => exact Nat.le_of_lt (plc_some q).1
theorem okd_pr {S : List Tb} {f : Ft} (hS : S.length ≤ 100) (h : FtOk f) : okd (prD (keyP S f)) = true := by
  refine fD_okd (n := 50) ?_ (by decide)
  have hk := key_le S f
  have hn : fD 49 (.int ((keyP S f).1 : Int)) = true := decide_eq_true (show ((((keyP S f).1 : Nat) : Int)).natAbs < 2 ^ 64 by omega)
  have hr : fD 49 (.tuple ((keyP S f).2.map .str)) = true := rows_f h.2 48
  show (fD 49 (.int ((keyP S f).1 : Int)) && (fD 49 (.tuple ((keyP S f).2.map .str)) && true)) = true
  rw [hn, hr]
  rfl
theorem le_keys {S : List Tb} {f g : Ft} (hf : FtOk f) (hg : FtOk g) (hS : S.length ≤ 100) : leTD (prD (keyP S f)) (prD (keyP S g)) = .ok (.bool (!PySem.W.dataLt (prD (keyP S g)) (prD (keyP S f)))) := by
  show (if PySem.W.alike (prD (keyP S f)) (prD (keyP S g)) = true ∧ okd (prD (keyP S f)) = true ∧ okd (prD (keyP S g)) = true then Res.ok _ else .bad) = _
  rw [if_pos ⟨alike_pr _ _, okd_pr hS hf, okd_pr hS hg⟩]
  rfl
theorem name_uniq {S : List Tb} (nd : (S.map (·.1)).Nodup) {t u : Tb} (ht : t ∈ S) (hu : u ∈ S) (he : t.1 = u.1) : t = u := by
  induction S with
  | nil => cases ht
  | cons x xs ih =>
    rw [List.map_cons, List.nodup_cons] at nd
    rcases List.mem_cons.mp ht with rfl | h1 <;> rcases List.mem_cons.mp hu with rfl | h2
    · rfl
    · exact absurd (List.mem_map.mpr ⟨u, by assumption, he.symm⟩) nd.1
    · exact absurd (List.mem_map.mpr ⟨t, by assumption, he⟩) nd.1
    · exact ih nd.2 (by assumption) (by assumption)
def ascB (S : List Tb) (p : Option Ft) (f : Ft) : Bool := match p with
  | none => true
  | some p => PySem.W.dataLt (prD (keyP S p)) (prD (keyP S f))
def chainB (S : List Tb) : Option Ft → List Ft → Prop
  | _, [] => True
  | p, f :: D => ascB S p f = true ∧ chainB S (some f) D
theorem lt_keys {S : List Tb} {f g : Ft} (hf : ∃ t ∈ S, t.1 = f.1) (hg : ∃ t ∈ S, t.1 = g.1) (ne : f ≠ g) (h : leF S f g = true) : PySem.W.dataLt (prD (keyP S f)) (prD (keyP S g)) = true := by
  cases q : PySem.W.dataLt (prD (keyP S f)) (prD (keyP S g)) with
  | true => rfl
  | false =>
    have h : PySem.W.dataLe false id (prD (keyP S f)) (prD (keyP S g)) = true := h
    rw [dle_iff] at h
    have h2 : PySem.W.dataLt (prD (keyP S g)) (prD (keyP S f)) = false := by simpa using h
    have e := dlt_total (alike_pr (keyP S f) (keyP S g)) q h2
    have e2 := (eqv_iff _ _ (noB_pr _) (noB_pr _)).mp e
    exact absurd (key_inj hf hg (prd_inj e2)) ne
theorem chain_of {S : List Tb} : ∀ (D : List Ft) (p : Option Ft), (∀ f ∈ D, ∃ t ∈ S, t.1 = f.1) → D.Nodup → (D.Pairwise fun f g => leF S f g = true) → (∀ g, p = some g → (∃ t ∈ S, t.1 = g.1) ∧ ∀ f ∈ D, g ≠ f ∧ leF S g f = true) → chainB S p D
  | [], _, _, _, _, _ => trivial
  | f :: D, p, h, nd, pw, hp => by
    rw [List.nodup_cons] at nd
    rw [List.pairwise_cons] at pw
    refine ⟨?_, chain_of D (some f) (fun g hg => h g (List.mem_cons_of_mem _ hg)) nd.2 pw.2 fun g e => ?_⟩
    · cases p with
      | none => rfl
      | some g =>
        obtain ⟨h1, h2⟩ := hp g rfl
        obtain ⟨n1, n2⟩ := h2 f List.mem_cons_self
        exact lt_keys h1 (h f List.mem_cons_self) n1 n2
    · cases e
      exact ⟨h f List.mem_cons_self, fun g hg => ⟨fun z => nd.1 (z ▸ hg), pw.1 g hg⟩⟩
/-! ### facts of any kind -/
def CeO (d : Pyr.D) : Prop := (∃ x : Str, d = .str x ∧ x.length ≤ 100 ∧ PyData.strOk x = true) ∨ (∃ i : Int, d = .int i ∧ i.natAbs ≤ 100) ∨ d = .none
theorem CeO.okT {d : Pyr.D} (h : CeO d) : okT d := by
  rcases h with ⟨x, rfl, l, _⟩ | ⟨i, rfl, _⟩ | rfl
  · exact ⟨fun y q => by cases q; exact Nat.le_trans l (by decide), fun es q => by cases q⟩
  · exact ⟨fun y q => (nomatch q), fun es q => by cases q⟩
  · exact ⟨fun y q => (nomatch q), fun es q => by cases q⟩
theorem CeO.lo {d : Pyr.D} (h : CeO d) : isLo d = false := by
  rcases h with ⟨x, rfl, _⟩ | ⟨i, rfl, _⟩ | rfl <;> rfl
theorem wdB_wd {x : Str} (w : Wd x) : wdB (.str x) = true := by
  show (decide (1 ≤ x.length ∧ x.length ≤ 12) && x.cps.toList.all inL) = true
  rw [decide_eq_true ⟨w.1, w.2.1⟩, Bool.true_and]
  exact List.all_eq_true.mpr fun c hc => decide_eq_true (w.2.2 c hc)
theorem wd_of {x : Str} (h : wdB (.str x) = true) : Wd x := by
  have h : (decide (1 ≤ x.length ∧ x.length ≤ 12) && x.cps.toList.all inL) = true := h
  rw [Bool.and_eq_true, decide_eq_true_eq, List.all_eq_true] at h
  exact ⟨h.1.1, h.1.2, fun c hc => of_decide_eq_true (h.2 c hc)⟩
theorem ce_wd {x : Str} (w : Wd x) : CeO (.str x) := .inl ⟨x, rfl, by have := w.2.1; omega, letS_ok w.2.2⟩
def rowB (w : Nat) (r : List Pyr.D) : Bool := decide (r.length = w) && r.all wdB
theorem row_run (r : List Pyr.D) (w : Nat) (h : ∀ d ∈ r, CeO d) (hl : r.length ≤ 50) : m_is_row [.tuple r, .int (w : Int)] = .ok (.val (.bool (rowB w r))) := by
  rw [u_is_row]
  rw [defM_eq (np := 2) rfl]
  show outR (F_is_row [.val (.tuple r), .val (.int (w : Int)), .emp]) = _
  unfold F_is_row
  refine congrArg outR (ret_ok (d := .bool (rowB w r)) ?_)
  have hlen : (eN (oneD lenD) (aC (eVar 0) Pyr.a0)) [some (.tuple r), some (.int (w : Int)), none] = .ok (.int (r.length : Int)) := (one_ok rfl).trans rfl
  have hg : (eGx true [2] (Tg.nm 2) (iF walkD (eVar 0)) tYesR (eCall m_is_word (aC (eVar 2) Pyr.a0))) [some (.tuple r), some (.int (w : Int)), none] = .ok (.bool (r.all wdB)) := by
    refine Com3.gx_run (ds := r) rfl (Pyr.gxF_all (p := wdB) r fun d hd => ⟨_, rfl, rfl, ?_⟩)
    have v : (aC (eVar 2) Pyr.a0) [some (.tuple r), some (.int (w : Int)), some d] = .ok [d] := aC_ok (run_v0 (ρ := []) (h d hd).lo) rfl
    exact (call_ok v (is_word_run d (h d hd).okT)).trans rfl
  show (eAnd (Pyr.e2 eqD (eN (oneD lenD) (aC (eVar 0) Pyr.a0)) (eVar 1)) _) [some (.tuple r), some (.int (w : Int)), none] = _
  unfold eAnd Pyr.e2
  rw [hlen]
  show ((eqD (.int (r.length : Int)) (.int (w : Int))).bind _) = _
  rw [show eqD (.int (r.length : Int)) (.int (w : Int)) = .ok (.bool (decide (r.length = w))) from by rw [eqD_int]; congr 2; rw [decide_eq_decide]; omega]
  unfold rowB
  by_cases q : r.length = w
  · rw [decide_eq_true q, Bool.true_and]
    exact hg
  · rw [decide_eq_false q, Bool.false_and]
    rfl
theorem lword_run (d : Pyr.D) (hd : CeO d) : m__law_is_word [d] = .ok (.val (.bool (wdB d))) := by
  rw [u__law_is_word, defM_eq (np := 1) rfl]
  show outR (F__law_is_word [.val d, .emp, .emp]) = _
  unfold F__law_is_word
  rcases hd with ⟨x, rfl, hx, _⟩ | ⟨i, rfl, _⟩ | rfl
  · refine seqO (ρ' := [.val (.str x), .val (.str lets), .emp]) rfl ?_
    rw [seq_ok (Eq.trans (if_ok (b := false) rfl) rfl)]
    have hlen : (eN (oneD lenD) (aC (eVar 0) Pyr.a0)) [some (.str x), some (.str lets), none] = .ok (.int x.length) := (one_ok rfl).trans (len_str (by show _ ≤ 100000; omega))
    have hc : (eChain leD leD (eC (.int 1)) (eN (oneD lenD) (aC (eVar 0) Pyr.a0)) (eC (.int 12))) [some (.str x), some (.str lets), none] = .ok (.bool (decide (1 ≤ x.length ∧ x.length ≤ 12))) := by
      unfold eChain
      rw [hlen]
      show (if decide ((1 : Int) ≤ (x.length : Int)) = true then Res.ok (PyData.bool (decide ((x.length : Int) ≤ 12))) else .ok (.bool false)) = _
      by_cases h1 : 1 ≤ x.length
      · rw [if_pos (decide_eq_true (by omega))]
        congr 2
        rw [decide_eq_decide]
        omega
      · rw [if_neg (by rw [decide_eq_true_eq]; omega), decide_eq_false (by omega)]
    refine congrArg outR (ret_ok (d := .bool (wdB (.str x))) ?_)
    show (eAnd _ _) [some (.str x), some (.str lets), none] = Res.ok (PyData.bool (decide (1 ≤ x.length ∧ x.length ≤ 12) && x.cps.toList.all inL))
    unfold eAnd
    rw [hc]
    by_cases q : 1 ≤ x.length ∧ x.length ≤ 12
    · rw [decide_eq_true q, Bool.true_and]
      show (eN (oneD allD) (aC (eL (lComp [2] (Tg.nm 2) (iF walkD (eVar 0)) tYesR (Pyr.e2 inD (eVar 2) (eVar 1)))) Pyr.a0)) [some (.str x), some (.str lets), none] = _
      have hl : lComp [2] (Tg.nm 2) (iF walkD (eVar 0)) tYesR (Pyr.e2 inD (eVar 2) (eVar 1)) [some (.str x), some (.str lets), none] = .ok ((x.cps.toList.map inL).map .bool) := by
        rw [List.map_map]
        refine lComp_ok (ds := signsD x) rfl (by unfold signsD; rw [List.length_map]; have := q.2; have e : x.length = x.cps.toList.length := by show x.cps.size = _; simp
                                                 omega) (compF_en (fun c => .str ⟨#[c]⟩) (fun c => .bool (inL c)) x.cps.toList fun c hc => ⟨_, rfl, rfl, rfl⟩)
      refine (one_ok (mapL_ok hl)).trans ?_
      rw [Com5.allD_bools, List.all_map]
      rfl
    · rw [decide_eq_false q, Bool.false_and]
      rfl
  · rfl
  · rfl
structure GF where
  n : Option Str
  r : List Pyr.D
def nmD : Option Str → Pyr.D
  | none => .none
  | some x => .str x
def gfD (g : GF) : Pyr.D := .tuple [nmD g.n, .tuple g.r]
structure GOk (g : GF) : Prop where
  ce : ∀ d ∈ g.r, CeO d
  len : g.r.length ≤ 50
def plcO (S : List Tb) (n : Option Str) : Option Nat := n.bind (plc S)
theorem eq_no (x : Str) : eqD (.str x) .none = .ok (.bool false) := rfl
theorem place_no (S : List Tb) (hS : S.length ≤ 1000) : m_place_of [.list (S.map tbD), .none] = .ok (.val .none) := by
  rw [u_place_of]
  rw [defM_eq (np := 2) rfl]
  show outR (F_place_of [.val (.list (S.map tbD)), .val .none, .emp, .emp]) = _
  unfold F_place_of
  have hf := forF_find (t := Tg.tp [2, 3]) (F := B_place_of_0) (ρ := [.val (.list (S.map tbD)), .val .none, .emp, .emp]) (fun k : Nat => .tuple [.int (k : Int), ((S[k - 0]?).map tbD).getD .none]) (fun k => false) (fun k => .val (.int (k : Int))) (List.range' 0 S.length) fun k hk => by
    have hk : k < S.length := by have := (List.mem_range'_1.mp hk).2; omega
    have q : ((S[k - 0]?).map tbD).getD .none = tbD S[k] := by rw [Nat.sub_zero, List.getElem?_eq_getElem hk]; rfl
    rw [q]
    refine ⟨_, rfl, (fun h => by cases h), fun h => .inl ?_⟩
    unfold B_place_of_0
    dsimp! [eL, setsF, tb_0, v0_tb, eq_no]
  have hr : (iF enumD (eVar 0)) (purE [.val (.list (S.map tbD)), .val .none, .emp, .emp]) = .ok (enumL 0 (S.map tbD)) := rfl
  have he := enumL_map tbD S 0
  have he : enumL 0 (S.map tbD) = _ := he
  show outR (sSeq _ _ [.val (.list (S.map tbD)), .val .none, .emp, .emp]) = _
  rw [← he] at hf
  have e' : (List.range' 0 S.length).find? (fun k => false) = none := List.find?_eq_none.mpr fun k _ => Bool.false_ne_true
  rw [e'] at hf
  rw [seq_ok ((for_ok hr).trans hf)]
  rfl
theorem lplace_no (S : List Tb) (hS : S.length ≤ 1000) : m__law_place [.list (S.map tbD), .none] = .ok (.val (.int (S.length : Int))) := by
  have lS : (S.map tbD).length = S.length := List.length_map _
  rw [u__law_place]
  rw [defM_eq (np := 2) rfl]
  show outR (F__law_place [.val (.list (S.map tbD)), .val .none, .emp]) = _
  unfold F__law_place
  have hf := forF_find (t := Tg.nm 2) (F := B__law_place_0) (ρ := [.val (.list (S.map tbD)), .val .none, .emp]) (fun k : Nat => .int (k : Int)) (fun k => false) (fun k => .val (.int (k : Int))) (List.range' 0 S.length) fun k hk => by
    have hk : k < S.length := by have := (List.mem_range'_1.mp hk).2; omega
    refine ⟨_, rfl, (fun h => by cases h), fun h => .inl ?_⟩
    unfold B__law_place_0
    dsimp! [eL, tb_at hk, tb_0, eq_no]
  rw [← upto_map] at hf
  show outR (sSeq _ _ [.val (.list (S.map tbD)), .val .none, .emp]) = _
  have hr : (iF r1D (eN (oneD lenD) (aC (eVar 0) a0))) (frzE [.val (.list (S.map tbD)), .val .none, .emp]) = r1D (.int (S.length : Int)) := iF_ok (len_ok rfl lS)
  have e' : (List.range' 0 S.length).find? (fun k => false) = none := List.find?_eq_none.mpr fun k _ => Bool.false_ne_true
  rw [e'] at hf
  rw [seq_ok (forN S.length (by omega) hr hf)]
  dsimp! [eL, lS]
theorem placeO (S : List Tb) (n : Option Str) (hS : S.length ≤ 1000) : m_place_of [.list (S.map tbD), nmD n] = .ok (.val (match plcO S n with
    | some k => .int (k : Int)
    | none => .none)) := by
  cases n with
  | none => exact place_no S hS
  | some x => exact place_run S x hS
theorem lplaceO (S : List Tb) (n : Option Str) (hS : S.length ≤ 1000) : m__law_place [.list (S.map tbD), nmD n] = .ok (.val (.int (((plcO S n).getD S.length : Nat) : Int))) := by
  cases n with
  | none => exact lplace_no S hS
  | some x => exact lplace_run S x hS
/-! ### check_facts and what is due -/
def wordsOf (r : List Pyr.D) : List Str := r.map fun d => match d with
  | .str x => x
  | _ => ""
theorem words_of {r : List Pyr.D} (h : r.all wdB = true) : r = (wordsOf r).map .str ∧ ∀ w ∈ wordsOf r, Wd w := by
  rw [List.all_eq_true] at h
  have e : ∀ d ∈ r, ∃ x : Str, d = .str x ∧ Wd x := fun d hd => by
    have := h d hd
    cases d with
    | str x => exact ⟨x, rfl, wd_of this⟩
    | _ => cases this
  refine ⟨?_, fun w hw => ?_⟩
  · unfold wordsOf
    rw [List.map_map]
    refine (List.map_id r).symm.trans (List.map_congr_left fun d hd => ?_)
    obtain ⟨x, rfl, _⟩ := e d hd
    rfl
  · obtain ⟨d, hd, rfl⟩ := List.mem_map.mp hw
    obtain ⟨x, rfl, hx⟩ := e d hd
    exact hx
def gft (g : GF) : Ft := (g.n.getD "", wordsOf g.r)
inductive Oc where
  | go | tab | row | ord
def oc (S : List Tb) (p : Option Ft) (g : GF) : Oc := match plcO S g.n with
  | none => .tab
  | some k => if rowB ((S.getD k ("", 0, none)).2.1) g.r = true then (if ascB S p (gft g) = true then .go else .ord) else .row
def due (S : List Tb) : Option Ft → List GF → Oc
  | _, [] => .go
  | p, g :: gs => match oc S p g with
    | .go => due S (some (gft g)) gs
    | o => o
def Oc.x : Oc → Option Str
  | .go => none
  | .tab => some "UnknownTable"
  | .row => some "BadRow"
  | .ord => some "NotAscending"
def Oc.t : Oc → Str
  | .go => "good"
  | .tab => "table"
  | .row => "row"
  | .ord => "order"
def bfD (S : List Tb) : Option Ft → Pyr.D
  | none => .none
  | some f => prD (keyP S f)
abbrev fC (S : List Tb) (FD : List Pyr.D) (s2 s3 s4 s5 : Sl) : Frm := [.val (.list (S.map tbD)), .val (.list FD), s2, s3, s4, s5]
abbrev fU (S : List Tb) (FD : List Pyr.D) (s2 s3 s4 s5 : Sl) : Frm := [.val (.list (S.map tbD)), .val (.list FD), s2, s3, s4, s5, .emp]
theorem ifT {ft : En → Res Bool} {F1 F2 : Frm → Res Fl} {ρ : Frm} {r : Res Fl} (h : ft (frzE ρ) = .ok true) (h1 : F1 ρ = r) : sIf ft F1 F2 ρ = r := by rw [if_ok h, if_pos rfl, h1]
theorem ifF {ft : En → Res Bool} {F1 F2 : Frm → Res Fl} {ρ : Frm} {r : Res Fl} (h : ft (frzE ρ) = .ok false) (h1 : F2 ρ = r) : sIf ft F1 F2 ρ = r := by rw [if_ok h, if_neg Bool.false_ne_true, h1]
theorem seq_exc {F1 F2 : Frm → Res Fl} {ρ : Frm} {c : Str} {fs : List (Str × Pyr.D)} (h : F1 ρ = .exc c fs) : sSeq F1 F2 ρ = .exc c fs := by
  unfold sSeq
  rw [h]
  rfl
/-- what a fact is where its table and its row are good -/
theorem gft_ok {S : List Tb} {g : GF} {k : Nat} (hW : ∀ t ∈ S, Wd t.1) (hk : plcO S g.n = some k) (hr : g.r.all wdB = true) : ∃ hl : k < S.length, g.n = some (S[k]'hl).1 ∧ gfD g = ftD (gft g) ∧ FtOk (gft g) ∧ keyP S (gft g) = (k, wordsOf g.r) ∧ g.r = (wordsOf g.r).map .str := by
  unfold plcO at hk
  obtain ⟨x, hx, hk⟩ := Option.bind_eq_some_iff.mp hk
  obtain ⟨hl, hn⟩ := plc_some hk
  obtain ⟨e1, e2⟩ := words_of hr
  have en : gft g = (x, wordsOf g.r) := by unfold gft; rw [hx]; rfl
  refine ⟨hl, by rw [hx, hn], ?_, ?_, ?_, e1⟩
  · rw [en]
    unfold gfD ftD
    rw [hx]
    show PyData.tuple [.str x, .tuple g.r] = .tuple [.str x, .tuple ((wordsOf g.r).map .str)]
    rw [← e1]
  · rw [en]
    exact ⟨by rw [← hn]; exact hW _ (List.getElem_mem _), e2⟩
  · rw [en]
    unfold keyP
    rw [hk]
    rfl
theorem forF_exc {t : Tg} {F : Frm → Res Fl} {d : Pyr.D} {ds : List Pyr.D} {ρ ρ1 : Frm} {c : Str} {fs : List (Str × Pyr.D)} (h : tgF t d ρ = .ok ρ1) (hb : F ρ1 = .exc c fs) : forF t F (d :: ds) ρ = .exc c fs := by
  show (tgF t d ρ).bind _ = _
  rw [h]
  show (F ρ1).bind _ = _
  rw [hb]
  rfl
section
variable (S : List Tb) (hS : S.length ≤ 100) (hW : ∀ t ∈ S, Wd t.1) (FD : List Pyr.D)
include hS hW
theorem facts_turn (p : Option Ft) (hp : ∀ g, p = some g → FtOk g) (g : GF) (hg : GOk g) :
    B_check_facts_0 (fC S FD (.val (bfD S p)) (.val (nmD g.n)) (.val (.tuple g.r)) .emp) = match (oc S p g).x with
      | none => .ok (.next (fC S FD (.val (bfD S (some (gft g)))) .emp .emp .emp))
      | some c => .exc c [] := by
  have pl := placeO S g.n (by omega)
  unfold oc
  cases hk : plcO S g.n with
  | none =>
    rw [hk] at pl
    have s1 : sSet 5 (eCall m_place_of (aC (eVar 0) (aC (eVar 3) Pyr.a0))) (fC S FD (.val (bfD S p)) (.val (nmD g.n)) (.val (.tuple g.r)) .emp) = .ok (.next (fC S FD (.val (bfD S p)) (.val (nmD g.n)) (.val (.tuple g.r)) (.val .none))) :=
      set_ok (call_ok (aC_ok rfl (aC_ok (by cases g.n <;> rfl) (xs := []) rfl)) pl)
    unfold B_check_facts_0
    rw [seq_ok s1, seq_exc (ifT (by rfl) rfl)]
    rfl
  | some k =>
    rw [hk] at pl
    have hl : k < S.length := by
      unfold plcO at hk
      obtain ⟨x, _, hk⟩ := Option.bind_eq_some_iff.mp hk
      exact (plc_some hk).1
    have eg : S.getD k ("", 0, none) = S[k] := by rw [List.getD_eq_getElem?_getD, List.getElem?_eq_getElem hl]; rfl
    have at' : atD (.list (S.map tbD)) (.int (k : Int)) = .ok (tbD S[k]) := tb_at hl
    have s1 : sSet 5 (eCall m_place_of (aC (eVar 0) (aC (eVar 3) Pyr.a0))) (fC S FD (.val (bfD S p)) (.val (nmD g.n)) (.val (.tuple g.r)) .emp) = .ok (.next (fC S FD (.val (bfD S p)) (.val (nmD g.n)) (.val (.tuple g.r)) (.val (.int (k : Int))))) :=
      set_ok (call_ok (aC_ok rfl (aC_ok (by cases g.n <;> rfl) (xs := []) rfl)) pl)
    have rr := row_run g.r S[k].2.1 hg.ce hg.len
    have t2 : (tNotR (tE truD (eCall m_is_row (aC (eVar 4) (aC (Pyr.e2 atD (Pyr.e2 atD (eVar 0) (eVar 5)) (eC (.int 1))) Pyr.a0))))) (frzE (fC S FD (.val (bfD S p)) (.val (nmD g.n)) (.val (.tuple g.r)) (.val (.int (k : Int))))) = .ok (!rowB S[k].2.1 g.r) := by
      have w : (Pyr.e2 atD (Pyr.e2 atD (eVar 0) (eVar 5)) (eC (.int 1))) (frzE (fC S FD (.val (bfD S p)) (.val (nmD g.n)) (.val (.tuple g.r)) (.val (.int (k : Int))))) = .ok (.int (S[k].2.1 : Int)) :=
        (e2_ok (x := tbD S[k]) (y := .int 1) ((e2_ok (x := .list (S.map tbD)) (y := .int (k : Int)) rfl rfl).trans at') rfl).trans (tb_1 _)
      exact not_ok (b := rowB S[k].2.1 g.r) ((tE_ok (call_ok (aC_ok (x := .tuple g.r) rfl (aC_ok w rfl)) rr)).trans rfl)
    unfold B_check_facts_0
    rw [seq_ok s1, seq_ok (ifF (by rfl) rfl)]
    dsimp only
    rw [eg]
    cases qr : rowB S[k].2.1 g.r with
    | false =>
      rw [qr] at t2
      rw [seq_exc (ifT t2 rfl)]
      rfl
    | true =>
      rw [qr] at t2
      rw [seq_ok (ifF t2 rfl), if_pos rfl]
      obtain ⟨_, _, _, fo, ek, er⟩ := gft_ok hW hk (by unfold rowB at qr; rw [Bool.and_eq_true] at qr; exact qr.2)
      have kk : (eN tupD (aC (eVar 5) (aC (eVar 4) Pyr.a0))) (frzE (fC S FD (.val (bfD S p)) (.val (nmD g.n)) (.val (.tuple g.r)) (.val (.int (k : Int))))) = .ok (prD (keyP S (gft g))) := by
        rw [ek]
        refine (eN_ok (xs := [.int (k : Int), .tuple g.r]) rfl).trans ?_
        unfold Com2.prD
        dsimp only
        rw [← er]
        rfl
      have kp : (eN tupD (aC (eVar 5) (aC (eVar 4) Pyr.a0))) (purE (fC S FD (.val (bfD S p)) (.val (nmD g.n)) (.val (.tuple g.r)) (.val (.int (k : Int))))) = .ok (prD (keyP S (gft g))) := by
        rw [ek]
        refine (eN_ok (xs := [.int (k : Int), .tuple g.r]) rfl).trans ?_
        unfold Com2.prD
        dsimp only
        rw [← er]
        rfl
      have t3 : (tAndR (tE boolD (Pyr.e2 notBD (eVar 2) (eC .none))) (tE boolD (Pyr.e2 leTD (eN tupD (aC (eVar 5) (aC (eVar 4) Pyr.a0))) (eVar 2)))) (frzE (fC S FD (.val (bfD S p)) (.val (nmD g.n)) (.val (.tuple g.r)) (.val (.int (k : Int))))) = .ok (!ascB S p (gft g)) := by
        cases p with
        | none => rfl
        | some h =>
          refine (and_ok (a := true) (b := !PySem.W.dataLt (prD (keyP S h)) (prD (keyP S (gft g)))) rfl fun _ => ?_).trans rfl
          exact (tE_ok ((e2_ok (y := prD (keyP S h)) kk rfl).trans (le_keys fo (hp h rfl) hS))).trans rfl
      cases qa : ascB S p (gft g) with
      | true =>
        rw [qa] at t3
        rw [seq_ok (ifF t3 rfl), seq_ok (set_ok kp)]
        rfl
      | false =>
        rw [qa] at t3
        rw [seq_exc (ifT t3 rfl)]
        rfl
end
section
variable (S : List Tb) (hS : S.length ≤ 100) (hW : ∀ t ∈ S, Wd t.1)
include hS hW
theorem gft_FtOk {p : Option Ft} {g : GF} (h : oc S p g = .go) : FtOk (gft g) := by
  unfold oc at h
  cases hk : plcO S g.n with
  | none => rw [hk] at h; cases h
  | some k =>
    rw [hk] at h
    dsimp only at h
    split at h
    · rename_i q
      exact (gft_ok hW hk (by unfold rowB at q; rw [Bool.and_eq_true] at q; exact q.2)).2.2.2.1
    · cases h
theorem facts_loop (FD : List Pyr.D) : ∀ (gs : List GF) (p : Option Ft), (∀ g, p = some g → FtOk g) → (∀ g ∈ gs, GOk g) →
    (forF (Tg.tp [3, 4]) B_check_facts_0 (gs.map gfD) (fC S FD (.val (bfD S p)) .emp .emp .emp) = match (due S p gs).x with
      | none => .ok (.next (fC S FD (.val (bfD S ((gs.getLast?.map gft).or p))) .emp .emp .emp))
      | some c => .exc c [])
  | [], p, _, _ => rfl
  | g :: gs, p, hp, h => by
    have t := facts_turn S hS hW FD p hp g (h g List.mem_cons_self)
    have tg : tgF (Tg.tp [3, 4]) (gfD g) (fC S FD (.val (bfD S p)) .emp .emp .emp) = .ok (fC S FD (.val (bfD S p)) (.val (nmD g.n)) (.val (.tuple g.r)) .emp) := rfl
    have un : due S p (g :: gs) = match oc S p g with
      | .go => due S (some (gft g)) gs
      | o => o := rfl
    cases e : oc S p g with
    | go =>
      rw [e] at t un
      rw [List.map_cons, forF_next tg t, un]
      dsimp only
      rw [facts_loop FD gs (some (gft g)) (fun y hy => by cases hy; exact gft_FtOk S hS hW e) fun z hz => h z (List.mem_cons_of_mem _ hz)]
      cases (due S (some (gft g)) gs).x with
      | some c => rfl
      | none =>
        dsimp only
        cases gs with
        | nil => rfl
        | cons u us =>
          rw [List.getLast?_cons_cons]
          have : ∃ z, (u :: us).getLast? = some z := ⟨_, List.getLast?_eq_some_getLast (List.cons_ne_nil _ _)⟩
          obtain ⟨z, hz⟩ := this
          rw [hz]
          rfl
    | tab =>
      rw [e] at t un
      rw [List.map_cons, forF_exc tg t, un]
      rfl
    | row =>
      rw [e] at t un
      rw [List.map_cons, forF_exc tg t, un]
      rfl
    | ord =>
      rw [e] at t un
      rw [List.map_cons, forF_exc tg t, un]
      rfl
theorem facts_run (gs : List GF) (h : ∀ g ∈ gs, GOk g) : m_check_facts [.list (S.map tbD), .list (gs.map gfD)] = match (due S none gs).x with
    | none => .ok (.val .none)
    | some c => .exc c [] := by
  have e := facts_loop S hS hW (gs.map gfD) gs none (fun g z => nomatch z) h
  rw [u_check_facts, defM_eq (np := 2) rfl]
  show outR (F_check_facts [.val (.list (S.map tbD)), .val (.list (gs.map gfD)), .emp, .emp, .emp, .emp]) = _
  unfold F_check_facts
  refine seqO (ρ' := fC S (gs.map gfD) (.val .none) .emp .emp .emp) rfl ?_
  show outR (sFor (Tg.tp [3, 4]) (iF walkD (eVar 1)) B_check_facts_0 (fC S (gs.map gfD) (.val (bfD S none)) .emp .emp .emp)) = _
  rw [for_ok (ds := gs.map gfD) rfl, e]
  cases (due S none gs).x <;> rfl
theorem due_turn (FD : List Pyr.D) (p : Option Ft) (hp : ∀ g, p = some g → FtOk g) (g : GF) (hg : GOk g) :
    B__law_facts_due_0 (fU S FD (.val (bfD S p)) (.val (nmD g.n)) (.val (.tuple g.r)) .emp) = match oc S p g with
      | .go => .ok (.next (fU S FD (.val (bfD S (some (gft g)))) .emp .emp .emp))
      | o => .ok (.ret (.val (.tuple [.str o.t]))) := by
  have pl := lplaceO S g.n (by omega)
  have lS : (S.map tbD).length = S.length := List.length_map _
  have hlen : ∀ ρ : En, eVar 0 ρ = .ok (.list (S.map tbD)) → (eN (oneD lenD) (aC (eVar 0) Pyr.a0)) ρ = .ok (.int (S.length : Int)) := fun ρ h => (one_ok h).trans (by show Res.ok (PyData.int (((S.map tbD).length : Nat) : Int)) = _; rw [lS])
  unfold oc
  have s1 : ∀ z : Nat, (plcO S g.n).getD S.length = z → sSet 5 (eCall m__law_place (aC (eVar 0) (aC (eVar 3) Pyr.a0))) (fU S FD (.val (bfD S p)) (.val (nmD g.n)) (.val (.tuple g.r)) .emp) = .ok (.next (fU S FD (.val (bfD S p)) (.val (nmD g.n)) (.val (.tuple g.r)) (.val (.int (z : Int))))) := fun z hz => by
    rw [hz] at pl
    exact set_ok (call_ok (aC_ok rfl (aC_ok (by cases g.n <;> rfl) (xs := []) rfl)) pl)
  have t1 : ∀ z : Nat, (tE boolD (Pyr.e2 eqD (eVar 5) (eN (oneD lenD) (aC (eVar 0) Pyr.a0)))) (frzE (fU S FD (.val (bfD S p)) (.val (nmD g.n)) (.val (.tuple g.r)) (.val (.int (z : Int))))) = .ok (decide (z = S.length)) := fun z => by
    refine (tE_ok (x := .bool (decide ((z : Int) = (S.length : Int)))) ((e2_ok (x := .int (z : Int)) (y := .int (S.length : Int)) rfl (hlen _ rfl)).trans (eqD_int _ _))).trans ?_
    show Res.ok (decide ((z : Int) = (S.length : Int))) = _
    congr 1
    rw [decide_eq_decide]
    omega
  cases hk : plcO S g.n with
  | none =>
    have s1 := s1 S.length (by rw [hk]; rfl)
    have t1 := t1 S.length
    rw [decide_eq_true rfl] at t1
    unfold B__law_facts_due_0
    rw [seq_ok s1, seq_ret (r := .val (.tuple [.str "table"])) (ifT t1 rfl)]
    rfl
  | some k =>
    have hl : k < S.length := by
      unfold plcO at hk
      obtain ⟨x, _, hk⟩ := Option.bind_eq_some_iff.mp hk
      exact (plc_some hk).1
    have eg : S.getD k ("", 0, none) = S[k] := by rw [List.getD_eq_getElem?_getD, List.getElem?_eq_getElem hl]; rfl
    have at' : atD (.list (S.map tbD)) (.int (k : Int)) = .ok (tbD S[k]) := tb_at hl
    have s1 := s1 k (by rw [hk]; rfl)
    have t1 := t1 k
    rw [decide_eq_false (by omega)] at t1
    have w : (Pyr.e2 atD (Pyr.e2 atD (eVar 0) (eVar 5)) (eC (.int 1))) (frzE (fU S FD (.val (bfD S p)) (.val (nmD g.n)) (.val (.tuple g.r)) (.val (.int (k : Int))))) = .ok (.int (S[k].2.1 : Int)) :=
      (e2_ok (x := tbD S[k]) (y := .int 1) ((e2_ok (x := .list (S.map tbD)) (y := .int (k : Int)) rfl rfl).trans at') rfl).trans (tb_1 _)
    have al : (eN (oneD allD) (aC (eL (lComp [6] (Tg.nm 6) (iF walkD (eVar 4)) tYesR (eCall m__law_is_word (aC (eVar 6) Pyr.a0)))) Pyr.a0)) (frzE (fU S FD (.val (bfD S p)) (.val (nmD g.n)) (.val (.tuple g.r)) (.val (.int (k : Int))))) = .ok (.bool (g.r.all wdB)) := by
      have hl : lComp [6] (Tg.nm 6) (iF walkD (eVar 4)) tYesR (eCall m__law_is_word (aC (eVar 6) Pyr.a0)) (frzE (fU S FD (.val (bfD S p)) (.val (nmD g.n)) (.val (.tuple g.r)) (.val (.int (k : Int))))) = .ok ((g.r.map wdB).map .bool) := by
        rw [List.map_map]
        have := compF_en (t := Tg.nm 6) (tt := tYesR) (fe := eCall m__law_is_word (aC (eVar 6) Pyr.a0)) (ρ := wipeE (frzE (fU S FD (.val (bfD S p)) (.val (nmD g.n)) (.val (.tuple g.r)) (.val (.int (k : Int))))) [6]) id (PyData.bool ∘ wdB) g.r fun d hd => ⟨_, rfl, rfl, call_ok (aC_ok (show eVar 6 _ = Res.ok d by
            show (if isLo d then Res.bad else .ok d) = _
            rw [(hg.ce d hd).lo]
            rfl) (xs := []) rfl) (lword_run d (hg.ce d hd))⟩
        rw [List.map_id] at this
        exact lComp_ok (ds := g.r) rfl (by have := hg.len; omega) this
      refine (one_ok (mapL_ok hl)).trans ?_
      rw [Com5.allD_bools, List.all_map]
      rfl
    have t2 : (tOrR (tE boolD (Pyr.e2 neD (eN (oneD lenD) (aC (eVar 4) Pyr.a0)) (Pyr.e2 atD (Pyr.e2 atD (eVar 0) (eVar 5)) (eC (.int 1))))) (tNotR (tE truD (eN (oneD allD) (aC (eL (lComp [6] (Tg.nm 6) (iF walkD (eVar 4)) tYesR (eCall m__law_is_word (aC (eVar 6) Pyr.a0)))) Pyr.a0))))) (frzE (fU S FD (.val (bfD S p)) (.val (nmD g.n)) (.val (.tuple g.r)) (.val (.int (k : Int))))) = .ok (!rowB S[k].2.1 g.r) := by
      have n1 : (tE boolD (Pyr.e2 neD (eN (oneD lenD) (aC (eVar 4) Pyr.a0)) (Pyr.e2 atD (Pyr.e2 atD (eVar 0) (eVar 5)) (eC (.int 1))))) (frzE (fU S FD (.val (bfD S p)) (.val (nmD g.n)) (.val (.tuple g.r)) (.val (.int (k : Int))))) = .ok (!decide (g.r.length = S[k].2.1)) := by
        refine (tE_ok (x := .bool (!decide ((g.r.length : Int) = (S[k].2.1 : Int)))) ((e2_ok (x := .int (g.r.length : Int)) (y := .int (S[k].2.1 : Int)) ((one_ok (x := .tuple g.r) rfl).trans rfl) w).trans (neD_int _ _))).trans ?_
        show Res.ok (!decide ((g.r.length : Int) = (S[k].2.1 : Int))) = _
        congr 2
        rw [decide_eq_decide]
        omega
      refine (or_ok (a := !decide (g.r.length = S[k].2.1)) (b := !g.r.all wdB) n1 fun _ => not_ok (b := g.r.all wdB) ((tE_ok al).trans rfl)).trans ?_
      unfold rowB
      rw [Bool.not_and]
    unfold B__law_facts_due_0
    rw [seq_ok s1, seq_ok (ifF t1 rfl)]
    dsimp only
    rw [eg]
    cases qr : rowB S[k].2.1 g.r with
    | false =>
      rw [qr] at t2
      rw [seq_ret (r := .val (.tuple [.str "row"])) (ifT t2 rfl)]
      rfl
    | true =>
      rw [qr] at t2
      rw [seq_ok (ifF t2 rfl), if_pos rfl]
      obtain ⟨_, _, _, fo, ek, er⟩ := gft_ok hW hk (by unfold rowB at qr; rw [Bool.and_eq_true] at qr; exact qr.2)
      have kk : (eN tupD (aC (eVar 5) (aC (eVar 4) Pyr.a0))) (frzE (fU S FD (.val (bfD S p)) (.val (nmD g.n)) (.val (.tuple g.r)) (.val (.int (k : Int))))) = .ok (prD (keyP S (gft g))) := by
        rw [ek]
        refine (eN_ok (xs := [.int (k : Int), .tuple g.r]) rfl).trans ?_
        unfold Com2.prD
        dsimp only
        rw [← er]
        rfl
      have kp : (eN tupD (aC (eVar 5) (aC (eVar 4) Pyr.a0))) (purE (fU S FD (.val (bfD S p)) (.val (nmD g.n)) (.val (.tuple g.r)) (.val (.int (k : Int))))) = .ok (prD (keyP S (gft g))) := by
        rw [ek]
        refine (eN_ok (xs := [.int (k : Int), .tuple g.r]) rfl).trans ?_
        unfold Com2.prD
        dsimp only
        rw [← er]
        rfl
      have t3 : (tAndR (tE boolD (Pyr.e2 notBD (eVar 2) (eC .none))) (tE boolD (Pyr.e2 leTD (eN tupD (aC (eVar 5) (aC (eVar 4) Pyr.a0))) (eVar 2)))) (frzE (fU S FD (.val (bfD S p)) (.val (nmD g.n)) (.val (.tuple g.r)) (.val (.int (k : Int))))) = .ok (!ascB S p (gft g)) := by
        cases p with
        | none => rfl
        | some h =>
          refine (and_ok (a := true) (b := !PySem.W.dataLt (prD (keyP S h)) (prD (keyP S (gft g)))) rfl fun _ => ?_).trans rfl
          exact (tE_ok ((e2_ok (y := prD (keyP S h)) kk rfl).trans (le_keys fo (hp h rfl) hS))).trans rfl
      cases qa : ascB S p (gft g) with
      | true =>
        rw [qa] at t3
        rw [seq_ok (ifF t3 rfl), seq_ok (set_ok kp)]
        rfl
      | false =>
        rw [qa] at t3
        rw [seq_ret (r := .val (.tuple [.str "order"])) (ifT t3 rfl)]
        rfl
theorem due_run (gs : List GF) (h : ∀ g ∈ gs, GOk g) : m__law_facts_due [.list (S.map tbD), .list (gs.map gfD)] = .ok (.val (.tuple [.str (due S none gs).t])) := by
  have lp : ∀ (FD : List Pyr.D) (gs : List GF) (p : Option Ft), (∀ g, p = some g → FtOk g) → (∀ g ∈ gs, GOk g) →
    (∃ q, forF (Tg.tp [3, 4]) B__law_facts_due_0 (gs.map gfD) (fU S FD (.val (bfD S p)) .emp .emp .emp) = match due S p gs with
      | .go => .ok (.next (fU S FD (.val (bfD S q)) .emp .emp .emp))
      | o => .ok (.ret (.val (.tuple [.str o.t])))) := fun FD gs => by
    induction gs with
    | nil => exact fun p _ _ => ⟨p, rfl⟩
    | cons g gs ih =>
      intro p hp h
      have t := due_turn S hS hW FD p hp g (h g List.mem_cons_self)
      have tg : tgF (Tg.tp [3, 4]) (gfD g) (fU S FD (.val (bfD S p)) .emp .emp .emp) = .ok (fU S FD (.val (bfD S p)) (.val (nmD g.n)) (.val (.tuple g.r)) .emp) := rfl
      have un : due S p (g :: gs) = match oc S p g with
        | .go => due S (some (gft g)) gs
        | o => o := rfl
      cases e : oc S p g with
      | go =>
        rw [e] at t un
        obtain ⟨q, hq⟩ := ih (some (gft g)) (fun y hy => by cases hy; exact gft_FtOk S hS hW e) fun z hz => h z (List.mem_cons_of_mem _ hz)
        exact ⟨q, by rw [List.map_cons, forF_next tg t, un]; exact hq⟩
      | tab =>
        rw [e] at t un
        exact ⟨none, by rw [List.map_cons, forF_ret tg t, un]⟩
      | row =>
        rw [e] at t un
        exact ⟨none, by rw [List.map_cons, forF_ret tg t, un]⟩
      | ord =>
        rw [e] at t un
        exact ⟨none, by rw [List.map_cons, forF_ret tg t, un]⟩
  obtain ⟨q, e⟩ := lp (gs.map gfD) gs none (fun g z => nomatch z) h
  rw [u__law_facts_due, defM_eq (np := 2) rfl]
  show outR (F__law_facts_due [.val (.list (S.map tbD)), .val (.list (gs.map gfD)), .emp, .emp, .emp, .emp, .emp]) = _
  unfold F__law_facts_due
  refine seqO (ρ' := fU S (gs.map gfD) (.val .none) .emp .emp .emp) rfl ?_
  show outR (sSeq (sFor (Tg.tp [3, 4]) (iF walkD (eVar 1)) B__law_facts_due_0) _ (fU S (gs.map gfD) (.val (bfD S none)) .emp .emp .emp)) = _
  cases hd : due S none gs with
  | go =>
    rw [hd] at e
    rw [seq_ok ((for_ok (ds := gs.map gfD) rfl).trans e)]
    rfl
  | tab =>
    rw [hd] at e
    rw [seq_ret ((for_ok (ds := gs.map gfD) rfl).trans e)]
    rfl
  | row =>
    rw [hd] at e
    rw [seq_ret ((for_ok (ds := gs.map gfD) rfl).trans e)]
    rfl
  | ord =>
    rw [hd] at e
    rw [seq_ret ((for_ok (ds := gs.map gfD) rfl).trans e)]
    rfl
end
/-! ### good facts; the first clash -/
theorem go_parts {S : List Tb} (hW : ∀ t ∈ S, Wd t.1) {p : Option Ft} {g : GF} (h : oc S p g = .go) : gfD g = ftD (gft g) ∧ FtOk (gft g) ∧ (∃ t ∈ S, t.1 = (gft g).1) ∧ ascB S p (gft g) = true := by
  unfold oc at h
  cases hk : plcO S g.n with
  | none => rw [hk] at h; cases h
  | some k =>
    rw [hk] at h
    dsimp only at h
    split at h
    · rename_i q
      obtain ⟨hl, hn, e, fo, _, _⟩ := gft_ok hW hk (by unfold rowB at q; rw [Bool.and_eq_true] at q; exact q.2)
      refine ⟨e, fo, ⟨S[k], List.getElem_mem _, ?_⟩, ?_⟩
      · unfold gft
        rw [hn]
        rfl
      · split at h
        · assumption
        · cases h
    · cases h
theorem due_go {S : List Tb} (hW : ∀ t ∈ S, Wd t.1) : ∀ (gs : List GF) (p : Option Ft), due S p gs = .go → gs.map gfD = (gs.map gft).map ftD ∧ (∀ f ∈ gs.map gft, FtOk f ∧ ∃ t ∈ S, t.1 = f.1) ∧ ((gs.map gft).Pairwise fun f g => dlt (prD (keyP S f)) (prD (keyP S g)) = true) ∧ ∀ q, p = some q → ∀ f ∈ gs.map gft, dlt (prD (keyP S q)) (prD (keyP S f)) = true
  | [], _, _ => ⟨rfl, (fun f h => nomatch h), List.Pairwise.nil, fun q _ f h => nomatch h⟩
  | g :: gs, p, h => by
    have un : due S p (g :: gs) = match oc S p g with
      | .go => due S (some (gft g)) gs
      | o => o := rfl
    rw [un] at h
    cases e : oc S p g with
    | go =>
      rw [e] at h
      obtain ⟨a1, a2, a3, a4⟩ := go_parts hW e
      obtain ⟨b1, b2, b3, b4⟩ := due_go hW gs _ h
      have b4 := b4 (gft g) rfl
      refine ⟨by rw [List.map_cons, List.map_cons, List.map_cons, a1, b1], fun f hf => ?_, ?_, fun q hq f hf => ?_⟩
      · rw [List.map_cons] at hf
        rcases List.mem_cons.mp hf with rfl | hf
        · exact ⟨a2, a3⟩
        · exact b2 f hf
      · rw [List.map_cons]
        exact List.Pairwise.cons b4 b3
      · have a4 : dlt (prD (keyP S q)) (prD (keyP S (gft g))) = true := by
          rw [hq] at a4
          exact a4
        rw [List.map_cons] at hf
        rcases List.mem_cons.mp hf with rfl | hf
        · exact a4
        · exact dlt_trans a4 (b4 f hf)
    | tab => rw [e] at h; cases h
    | row => rw [e] at h; cases h
    | ord => rw [e] at h; cases h
theorem due_nodup {S : List Tb} {fs : List Ft} (h : fs.Pairwise fun f g => dlt (prD (keyP S f)) (prD (keyP S g)) = true) : fs.Nodup := h.imp fun {a b} q e => by
  rw [e, dlt_irrefl] at q
  cases q
/-- the first clash -/
def clL (S : List Tb) : List Ft → List Ft → Option (Ft × Ft)
  | _, [] => none
  | pre, f :: fs => match pre.find? (fun g => sameF S g f) with
    | some g => some (g, f)
    | none => clL S (pre ++ [f]) fs
theorem head_keeps (S : List Tb) : ∀ (fs : List Ft) (s : List Ft × List (Ft × Ft)) (z : Ft × Ft), s.2.head? = some z → (fs.foldl (stepC S) s).2.head? = some z
  | [], _, _, h => h
  | f :: fs, s, z, h => by
    refine head_keeps S fs (stepC S s f) z ?_
    unfold stepC
    split
    · exact h
    · split
      · show (if _ then s.2 else s.2 ++ [_]).head? = some z
        split
        · exact h
        · cases e : s.2 with
          | nil => rw [e] at h; cases h
          | cons a b => rw [e] at h; exact h
      · exact h
def keyd (S : List Tb) (g : Ft) : Bool := decide (kyF S g ≠ none)
theorem clash_head (S : List Tb) : ∀ (fs pre : List Ft), (pre ++ fs).Nodup → (fs.foldl (stepC S) (pre.filter (keyd S), [])).2.head? = clL S pre fs
  | [], _, _ => rfl
  | f :: fs, pre, nd => by
    have nd2 : (pre ++ [f] ++ fs).Nodup := by rw [List.append_assoc]; exact nd
    show (fs.foldl (stepC S) (stepC S (pre.filter (keyd S), []) f)).2.head? = match pre.find? (fun g => sameF S g f) with
      | some g => some (g, f)
      | none => clL S (pre ++ [f]) fs
    unfold stepC
    cases hk : kyF S f with
    | none =>
      have e1 : pre.find? (fun g => sameF S g f) = none := List.find?_eq_none.mpr fun g _ h => by
        unfold sameF at h
        simp only [Bool.and_eq_true, decide_eq_true_eq] at h
        exact h.1 (h.2.trans hk)
      have e2 : (pre ++ [f]).filter (keyd S) = pre.filter (keyd S) := by
        rw [List.filter_append]
        have : [f].filter (keyd S) = [] := by
          unfold keyd
          simp [hk]
        rw [this, List.append_nil]
      rw [e1]
      have := clash_head S fs (pre ++ [f]) nd2
      rw [e2] at this
      exact this
    | some x =>
      have e0 : (pre.filter (keyd S)).find? (fun g => decide (kyF S g = some x)) = pre.find? (fun g => sameF S g f) := by
        rw [List.find?_filter]
        congr 1
        funext g
        unfold keyd sameF
        rw [hk]
        simp only [Bool.decide_and, Bool.decide_coe]
      show (fs.foldl (stepC S) (match (pre.filter (keyd S)).find? (fun g => decide (kyF S g = some x)) with
        | some g => (pre.filter (keyd S), if g = f then [] else [] ++ [(g, f)])
        | none => (pre.filter (keyd S) ++ [f], []))).2.head? = _
      rw [e0]
      cases e1 : pre.find? (fun g => sameF S g f) with
      | some g =>
        have hg : g ∈ pre := List.mem_of_find?_eq_some e1
        have ne : g ≠ f := fun e => by
          have := (List.nodup_append.mp nd).2.2
          exact this g hg f List.mem_cons_self e
        dsimp only
        rw [if_neg ne]
        exact head_keeps S fs _ (g, f) rfl
      | none =>
        have e2 : (pre ++ [f]).filter (keyd S) = pre.filter (keyd S) ++ [f] := by
          rw [List.filter_append]
          have : [f].filter (keyd S) = [f] := by
            unfold keyd
            simp [hk]
          rw [this]
        have := clash_head S fs (pre ++ [f]) nd2
        rw [e2] at this
        exact this
/-! ### check_database and what is due -/
section
variable (S : List Tb) (hS : S.length ≤ 100) (hW : ∀ t ∈ S, Wd t.1) (nd : (S.map (·.1)).Nodup)
include hS hW
/-- what check_database says: none, or the class and the fields; what is due of it -/
inductive Db where
  | ok | size | fact (o : Oc) | key (p : Ft × Ft)
def dbC (gs : List GF) : Db := if 24 < gs.length then .size else match due S none gs with
  | .go => (match clL S [] (gs.map gft) with
    | none => .ok
    | some p => .key p)
  | o => .fact o
def Db.r : Db → Res RV
  | .ok => .ok (.val .none)
  | .size => .exc "BadSize" []
  | .fact o => (match o.x with
    | none => .ok (.val .none)
    | some c => .exc c [])
  | .key p => .exc "KeyBroken" [("second", ftD p.2), ("first", ftD p.1)]
def Db.t : Db → Pyr.D
  | .ok => .tuple [.str "good"]
  | .size => .tuple [.str "size"]
  | .fact o => .tuple [.str o.t]
  | .key p => .tuple [.str "key", ftD p.1, ftD p.2]
theorem database_run (gs : List GF) (h : ∀ g ∈ gs, GOk g) (hl : gs.length ≤ 100) : m_check_database [.list (S.map tbD), .list (gs.map gfD)] = (dbC S gs).r := by
  have hf := facts_run S hS hW gs h
  have lG : (gs.map gfD).length = gs.length := List.length_map _
  have hlen : (eN (oneD lenD) (aC (eVar 1) Pyr.a0)) (frzE [.val (.list (S.map tbD)), .val (.list (gs.map gfD)), .emp, .emp, .emp]) = .ok (.int (gs.length : Int)) := (one_ok rfl).trans (by show Res.ok (PyData.int (((gs.map gfD).length : Nat) : Int)) = _; rw [lG])
  have t1 : (tE boolD (Pyr.e2 gtD (eN (oneD lenD) (aC (eVar 1) Pyr.a0)) (eC (.int 24)))) (frzE [.val (.list (S.map tbD)), .val (.list (gs.map gfD)), .emp, .emp, .emp]) = .ok (decide (24 < gs.length)) := by
    refine (tE_ok (x := .bool (decide ((24 : Int) < (gs.length : Int)))) ((e2_ok (x := .int (gs.length : Int)) (y := .int 24) hlen rfl).trans rfl)).trans ?_
    show Res.ok (decide ((24 : Int) < (gs.length : Int))) = _
    congr 1
    rw [decide_eq_decide]
    omega
  rw [u_check_database, defM_eq (np := 2) rfl]
  show outR (F_check_database [.val (.list (S.map tbD)), .val (.list (gs.map gfD)), .emp, .emp, .emp]) = _
  unfold F_check_database dbC
  by_cases q : 24 < gs.length
  · rw [decide_eq_true q] at t1
    rw [if_pos q, seq_exc (ifT t1 rfl)]
    rfl
  · rw [decide_eq_false q] at t1
    rw [if_neg q, seq_ok (ifF t1 rfl)]
    unfold T_check_database_1
    have bad : ∀ c : Str, (due S none gs).x = some c → outR (sSeq (sDrop (eCall m_check_facts (aC (eVar 0) (aC (eVar 1) Pyr.a0)))) T_check_database_2 [.val (.list (S.map tbD)), .val (.list (gs.map gfD)), .emp, .emp, .emp]) = .exc c [] := fun c hc => by
      rw [hc] at hf
      refine (congrArg outR (seq_exc (c := c) (fs := []) ?_)).trans rfl
      unfold sDrop evP
      have : (eCall m_check_facts (aC (eVar 0) (aC (eVar 1) Pyr.a0))) (purE [.val (.list (S.map tbD)), .val (.list (gs.map gfD)), .emp, .emp, .emp]) = .exc c [] := by
        unfold eCall
        rw [show (aC (eVar 0) (aC (eVar 1) Pyr.a0)) (purE [.val (.list (S.map tbD)), .val (.list (gs.map gfD)), .emp, .emp, .emp]) = .ok [.list (S.map tbD), .list (gs.map gfD)] from rfl, bind_ok, hf]
        rfl
      rw [this]
      rfl
    cases hd : due S none gs with
    | tab => exact bad _ (by rw [hd]; rfl)
    | row => exact bad _ (by rw [hd]; rfl)
    | ord => exact bad _ (by rw [hd]; rfl)
    | go =>
      rw [hd] at hf
      obtain ⟨e1, e2, e3, _⟩ := due_go hW gs none hd
      have hc := clashes_run S (gs.map gft) (by omega) (by rw [List.length_map]; omega) e2
      have hh := clash_head S (gs.map gft) [] (due_nodup e3)
      rw [← e1] at hc
      have d1 : sDrop (eCall m_check_facts (aC (eVar 0) (aC (eVar 1) Pyr.a0))) [.val (.list (S.map tbD)), .val (.list (gs.map gfD)), .emp, .emp, .emp] = .ok (.next [.val (.list (S.map tbD)), .val (.list (gs.map gfD)), .emp, .emp, .emp]) := by
        unfold sDrop
        rw [evP_ok (call_ok (xs := [.list (S.map tbD), .list (gs.map gfD)]) rfl hf)]
        rfl
      rw [seq_ok d1]
      unfold T_check_database_2
      have hh : ((gs.map gft).foldl (stepC S) ([], [])).2.head? = clL S [] (gs.map gft) := hh
      dsimp only
      cases hcl : clL S [] (gs.map gft) with
      | none =>
        rw [hcl, List.head?_eq_none_iff] at hh
        rw [hh] at hc
        rw [seq_ok (set_ok (call_ok (xs := [.list (S.map tbD), .list (gs.map gfD)]) rfl hc))]
        rfl
      | some p =>
        rw [hcl] at hh
        obtain ⟨r, hr⟩ := List.head?_eq_some_iff.mp hh
        rw [hr] at hc
        rw [seq_ok (set_ok (call_ok (xs := [.list (S.map tbD), .list (gs.map gfD)]) rfl hc))]
        show outR (T_check_database_3 [.val (.list (S.map tbD)), .val (.list (gs.map gfD)), .val (.list (pairD p :: r.map pairD)), .emp, .emp]) = _
        unfold T_check_database_3
        have t2 : (tE truD (eVar 2)) (frzE [.val (.list (S.map tbD)), .val (.list (gs.map gfD)), .val (.list (pairD p :: r.map pairD)), .emp, .emp]) = .ok true := rfl
        have a0' : atD (.list (pairD p :: r.map pairD)) (.int 0) = .ok (pairD p) := at_list (k := 0) rfl
        have s3 : sSetT (Tg.tp [3, 4]) (Pyr.e2 atD (eVar 2) (eC (.int 0))) [.val (.list (S.map tbD)), .val (.list (gs.map gfD)), .val (.list (pairD p :: r.map pairD)), .emp, .emp] = .ok (.next [.val (.list (S.map tbD)), .val (.list (gs.map gfD)), .val (.list (pairD p :: r.map pairD)), .val (ftD p.1), .val (ftD p.2)]) := by
          unfold sSetT
          rw [evP_ok ((e2_ok (x := .list (pairD p :: r.map pairD)) (y := .int 0) rfl rfl).trans a0')]
          rfl
        rw [ifT t2 rfl, seq_ok s3]
        rfl
include nd
theorem database_due (gs : List GF) (h : ∀ g ∈ gs, GOk g) (hl : gs.length ≤ 100) : m__law_database_due [.list (S.map tbD), .list (gs.map gfD)] = .ok (.val (dbC S gs).t) := by
  have hf := due_run S hS hW gs h
  have lG : (gs.map gfD).length = gs.length := List.length_map _
  have hlen : ∀ s2 s3 s4 : Sl, (eN (oneD lenD) (aC (eVar 1) Pyr.a0)) (frzE [.val (.list (S.map tbD)), .val (.list (gs.map gfD)), s2, s3, s4]) = .ok (.int (gs.length : Int)) := fun s2 s3 s4 => (one_ok rfl).trans (by show Res.ok (PyData.int (((gs.map gfD).length : Nat) : Int)) = _; rw [lG])
  have t1 : (tE boolD (Pyr.e2 gtD (eN (oneD lenD) (aC (eVar 1) Pyr.a0)) (eC (.int 24)))) (frzE [.val (.list (S.map tbD)), .val (.list (gs.map gfD)), .emp, .emp, .emp]) = .ok (decide (24 < gs.length)) := by
    refine (tE_ok (x := .bool (decide ((24 : Int) < (gs.length : Int)))) ((e2_ok (x := .int (gs.length : Int)) (y := .int 24) (hlen _ _ _) rfl).trans rfl)).trans ?_
    show Res.ok (decide ((24 : Int) < (gs.length : Int))) = _
    congr 1
    rw [decide_eq_decide]
    omega
  rw [u__law_database_due, defM_eq (np := 2) rfl]
  show outR (F__law_database_due [.val (.list (S.map tbD)), .val (.list (gs.map gfD)), .emp, .emp, .emp]) = _
  unfold F__law_database_due dbC
  by_cases q : 24 < gs.length
  · rw [decide_eq_true q] at t1
    rw [if_pos q, seq_ret (r := .val (.tuple [.str "size"])) (ifT t1 rfl)]
    rfl
  · rw [decide_eq_false q] at t1
    rw [if_neg q, seq_ok (ifF t1 rfl)]
    unfold T__law_database_due_1
    rw [seq_ok (ρ' := [.val (.list (S.map tbD)), .val (.list (gs.map gfD)), .val (.tuple [.str (due S none gs).t]), .emp, .emp]) (set_ok (call_ok (xs := [.list (S.map tbD), .list (gs.map gfD)]) rfl hf))]
    unfold T__law_database_due_2
    cases hd : due S none gs with
    | tab =>
      have t2 : (tE boolD (Pyr.e2 neD (eVar 2) (eN tupD (aC (eC (.str "good")) Pyr.a0)))) (frzE [.val (.list (S.map tbD)), .val (.list (gs.map gfD)), .val (.tuple [.str (Oc.tab).t]), .emp, .emp]) = .ok true := by kernel_rfl
      rw [seq_ret (r := .val (.tuple [.str (Oc.tab).t])) (ifT t2 rfl)]
      rfl
    | row =>
      have t2 : (tE boolD (Pyr.e2 neD (eVar 2) (eN tupD (aC (eC (.str "good")) Pyr.a0)))) (frzE [.val (.list (S.map tbD)), .val (.list (gs.map gfD)), .val (.tuple [.str (Oc.row).t]), .emp, .emp]) = .ok true := by kernel_rfl
      rw [seq_ret (r := .val (.tuple [.str (Oc.row).t])) (ifT t2 rfl)]
      rfl
    | ord =>
      have t2 : (tE boolD (Pyr.e2 neD (eVar 2) (eN tupD (aC (eC (.str "good")) Pyr.a0)))) (frzE [.val (.list (S.map tbD)), .val (.list (gs.map gfD)), .val (.tuple [.str (Oc.ord).t]), .emp, .emp]) = .ok true := by kernel_rfl
      rw [seq_ret (r := .val (.tuple [.str (Oc.ord).t])) (ifT t2 rfl)]
      rfl
    | go =>
      have t2 : (tE boolD (Pyr.e2 neD (eVar 2) (eN tupD (aC (eC (.str "good")) Pyr.a0)))) (frzE [.val (.list (S.map tbD)), .val (.list (gs.map gfD)), .val (.tuple [.str (Oc.go).t]), .emp, .emp]) = .ok false := by kernel_rfl
      rw [seq_ok (ifF t2 rfl)]
      obtain ⟨e1, e2, e3, _⟩ := due_go hW gs none hd
      rw [e1]
      have lF : (gs.map gft).length = gs.length := List.length_map _
      generalize gs.map gft = fs at *
      unfold T__law_database_due_3
      show outR (sSeq (sForR (Tg.nm 3) (iF r1D (eN (oneD lenD) (aC (eVar 1) Pyr.a0))) B__law_database_due_0) T__law_database_due_4 [.val (.list (S.map tbD)), .val (.list (fs.map ftD)), .emp, .emp, .emp]) = _
      have same : ∀ f ∈ fs, ∀ g ∈ fs, m__law_same_key [.list (S.map tbD), ftD f, ftD g] = .ok (.val (.bool (sameF S f g))) := fun f hf g hg => lsame_run S f g hW nd (e2 f hf).1 (e2 g hg).1 (e2 f hf).2
      have inner : ∀ (k : Nat) (hk : k < fs.length) (xs : List Ft), (∀ f ∈ xs, f ∈ fs) → forF (Tg.nm 4) B__law_database_due_1 (xs.map ftD) [.val (.list (S.map tbD)), .val (.list (fs.map ftD)), .emp, .val (.int (k : Int)), .emp] = match xs.find? (fun g => sameF S g fs[k]) with
          | some g => .ok (.ret (.val (.tuple [.str "key", ftD g, ftD fs[k]])))
          | none => .ok (.next [.val (.list (S.map tbD)), .val (.list (fs.map ftD)), .emp, .val (.int (k : Int)), .emp]) := fun k hk xs => by
        induction xs with
        | nil => exact fun _ => rfl
        | cons g xs ih =>
          intro hx
          have sk := same g (hx g List.mem_cons_self) fs[k] (List.getElem_mem _)
          have ak : atD (.list (fs.map ftD)) (.int (k : Int)) = .ok (ftD fs[k]) := at_list (by rw [List.getElem?_map, List.getElem?_eq_getElem hk]; rfl)
          have t : (tE truD (eCall m__law_same_key (aC (eVar 0) (aC (eVar 4) (aC (Pyr.e2 atD (eVar 1) (eVar 3)) Pyr.a0))))) (frzE [.val (.list (S.map tbD)), .val (.list (fs.map ftD)), .emp, .val (.int (k : Int)), .val (ftD g)]) = .ok (sameF S g fs[k]) :=
            (tE_ok (call_ok (aC_ok rfl (aC_ok rfl (aC_ok ((e2_ok (x := .list (fs.map ftD)) (y := .int (k : Int)) rfl rfl).trans ak) (xs := []) rfl))) sk)).trans rfl
          rw [List.map_cons, List.find?_cons]
          have tg : tgF (Tg.nm 4) (ftD g) [.val (.list (S.map tbD)), .val (.list (fs.map ftD)), .emp, .val (.int (k : Int)), .emp] = .ok [.val (.list (S.map tbD)), .val (.list (fs.map ftD)), .emp, .val (.int (k : Int)), .val (ftD g)] := rfl
          cases qs : sameF S g fs[k] with
          | true =>
            rw [qs] at t
            rw [forF_ret (r := .val (.tuple [.str "key", ftD g, ftD fs[k]])) tg]
            unfold B__law_database_due_1
            rw [seq_ret (r := .val (.tuple [.str "key", ftD g, ftD fs[k]])) (ifT t (ret_ok ((eN_ok (xs := [.str "key", ftD g, ftD fs[k]]) (aC_ok rfl (aC_ok rfl (aC_ok ((e2_ok (x := .list (fs.map ftD)) (y := .int (k : Int)) rfl rfl).trans ak) (xs := []) rfl)))).trans rfl)))]
          | false =>
            rw [qs] at t
            rw [forF_next (ρ2 := [.val (.list (S.map tbD)), .val (.list (fs.map ftD)), .emp, .val (.int (k : Int)), .emp]) tg]
            · exact ih fun z hz => hx z (List.mem_cons_of_mem _ hz)
            · unfold B__law_database_due_1
              rw [seq_ok (ifF t rfl)]
              rfl
      have outer : ∀ (m k : Nat), k + m = fs.length → forF (Tg.nm 3) B__law_database_due_0 ((List.range' k m).map fun i : Nat => .int (i : Int)) [.val (.list (S.map tbD)), .val (.list (fs.map ftD)), .emp, .emp, .emp] = match clL S (fs.take k) (fs.drop k) with
          | some p => .ok (.ret (.val (.tuple [.str "key", ftD p.1, ftD p.2])))
          | none => .ok (.next [.val (.list (S.map tbD)), .val (.list (fs.map ftD)), .emp, .emp, .emp]) := fun m => by
        induction m with
        | zero =>
          intro k hk
          rw [List.drop_of_length_le (by omega)]
          rfl
        | succ m ih =>
          intro k hk
          have hk' : k < fs.length := by omega
          have ed : fs.drop k = fs[k] :: fs.drop (k + 1) := List.drop_eq_getElem_cons hk'
          have et : fs.take (k + 1) = fs.take k ++ [fs[k]] := by rw [List.take_add_one, List.getElem?_eq_getElem hk']; rfl
          rw [List.range'_succ, List.map_cons, ed]
          show _ = match (match (fs.take k).find? (fun g => sameF S g fs[k]) with
            | some g => some (g, fs[k])
            | none => clL S (fs.take k ++ [fs[k]]) (fs.drop (k + 1))) with
            | some p => _
            | none => _
          have inn := inner k hk' (fs.take k) fun f hf => List.mem_of_mem_take hf
          have hi : (iF walkD (eSlice (eVar 1) oNone (oSome (eVar 3)))) (purE [.val (.list (S.map tbD)), .val (.list (fs.map ftD)), .emp, .val (.int (k : Int)), .emp]) = .ok ((fs.take k).map ftD) := by
            refine iF_ok (x := .list ((fs.take k).map ftD)) ?_
            show Res.ok (PyData.list (cutG (fs.map ftD) none (some (k : Int)))) = _
            rw [Pyr.cut_front, List.map_take]
          have tg : tgF (Tg.nm 3) (.int (k : Int)) [.val (.list (S.map tbD)), .val (.list (fs.map ftD)), .emp, .emp, .emp] = .ok [.val (.list (S.map tbD)), .val (.list (fs.map ftD)), .emp, .val (.int (k : Int)), .emp] := rfl
          cases qf : (fs.take k).find? (fun g => sameF S g fs[k]) with
          | some g =>
            rw [qf] at inn
            rw [forF_ret (r := .val (.tuple [.str "key", ftD g, ftD fs[k]])) tg]
            unfold B__law_database_due_0
            rw [seq_ret (r := .val (.tuple [.str "key", ftD g, ftD fs[k]])) ((for_ok hi).trans inn)]
          | none =>
            rw [qf] at inn
            rw [forF_next (ρ2 := [.val (.list (S.map tbD)), .val (.list (fs.map ftD)), .emp, .emp, .emp]) tg]
            · rw [ih (k + 1) (by omega), et]
            · unfold B__law_database_due_0
              rw [seq_ok ((for_ok hi).trans inn)]
              rfl
      have o := outer fs.length 0 (by omega)
      rw [← upto_map, List.take_zero, List.drop_zero] at o
      have hr : (iF r1D (eN (oneD lenD) (aC (eVar 1) Pyr.a0))) (frzE [.val (.list (S.map tbD)), .val (.list (fs.map ftD)), .emp, .emp, .emp]) = r1D (.int (fs.length : Int)) := iF_ok (len_ok rfl (List.length_map _))
      dsimp only
      cases hcl : clL S [] fs with
      | none =>
        rw [hcl] at o
        rw [seq_ok (forN fs.length (by omega) hr o)]
        rfl
      | some p =>
        rw [hcl] at o
        rw [seq_ret (forN fs.length (by omega) hr o)]
        rfl
end
theorem keysB_fts : ∀ D : List Ft, keysB (D.map ftD) = true
  | [] => rfl
  | f :: D => by
    have a := keyB_ft f
    have b := keysB_fts D
    show (keysB [PyData.str f.1, .tuple (f.2.map .str)] && keysB (D.map ftD)) = true
    rw [a, b]
    rfl
theorem tupB_fts (D : List Ft) : (D.map ftD).all tupB = true := List.all_eq_true.mpr fun d hd => by
  obtain ⟨f, _, rfl⟩ := List.mem_map.mp hd
  rfl
theorem set_fts {D : List Ft} (h : D.length ≤ 20) : textsD (.list (D.map ftD)) = .ok (D.map ftD) := by
  have k : keysC (D.map ftD) = true := by
    unfold keysC
    rw [keysB_fts, tupB_fts, List.length_map, decide_eq_true (show D.length ≤ 63 by omega)]
    simp only [Bool.true_and, Bool.and_true, List.all_eq_true, decide_eq_true_eq]
    intro d hd
    obtain ⟨f, _, rfl⟩ := List.mem_map.mp hd
    exact dep_ft f
  have s : ((D.map ftD).all strB && decide ((D.map ftD).length ≤ 4000) && !(D.map ftD).isEmpty) = false := by
    cases D with
    | nil => rfl
    | cons f D => rfl
  show (if ((D.map ftD).all strB && decide ((D.map ftD).length ≤ 4000) && !(D.map ftD).isEmpty) = true then _ else if keysC (D.map ftD) then _ else _) = _
  rw [s, if_neg Bool.false_ne_true, k, if_pos rfl]
theorem inS_ft {neg : Bool} {i j : Nat} {ρ : En} {f : Ft} {D : List Ft} (h : eVar j ρ = .ok (ftD f)) (hi : ρ[i]? = some (some (stD (D.map ftD)))) : eInS neg i (eVar j) ρ = .ok (neg != decide (f ∈ D)) := by
  unfold eInS setI
  rw [h, bind_ok, hi]
  show (if (keysB [PyData.str f.1, .tuple (f.2.map .str)] && decide ((ftD f).depth ≤ 8) && (D.map ftD).all tupB) = true then Res.ok (neg != (D.map ftD).any fun z => decide (nk z = nk (ftD f))) else .bad) = _
  rw [keyB_ft, tupB_fts, decide_eq_true (dep_ft f), Bool.true_and, Bool.true_and, if_pos rfl]
  congr 2
  rw [List.any_map, Bool.eq_iff_iff, List.any_eq_true, decide_eq_true_eq]
  exact ⟨fun ⟨z, hz, e⟩ => by rw [← nk_ft.mp (of_decide_eq_true e)]; exact hz, fun z => ⟨f, z, decide_eq_true rfl⟩⟩
/-! ### check_change and what is due -/
inductive Ch where
  | ok | fact (o : Oc) | gone (f : Ft) | there (f : Ft)
def chC (S : List Tb) (D : List Ft) (A B : List GF) : Ch := match due S none A with
  | .go => (match due S none B with
    | .go => (match (A.map gft).find? (fun f => decide (f ∉ D)) with
      | some f => .gone f
      | none => (match (B.map gft).find? (fun f => decide (f ∈ D)) with
        | some f => .there f
        | none => .ok))
    | o => .fact o)
  | o => .fact o
def Ch.r : Ch → Res RV
  | .ok => .ok (.val .none)
  | .fact o => (match o.x with
    | none => .ok (.val .none)
    | some c => .exc c [])
  | .gone f => .exc "NotThere" [("fact", ftD f)]
  | .there f => .exc "AlreadyThere" [("fact", ftD f)]
def Ch.t : Ch → Pyr.D
  | .ok => .tuple [.str "good"]
  | .fact o => .tuple [.str o.t]
  | .gone f => .tuple [.str "gone", ftD f]
  | .there f => .tuple [.str "there", ftD f]
theorem loopA {s0 s1 s2 s6 : Sl} {L : Pyr.D} (D : List Ft) : ∀ xs : List Ft, forF (Tg.nm 4) B_check_change_0 (xs.map ftD) [s0, s1, s2, .own (.set (D.map ftD)), .emp, .val L, s6] = match xs.find? (fun f => decide (f ∉ D)) with
    | some f => .exc "NotThere" [("fact", ftD f)]
    | none => .ok (.next [s0, s1, s2, .own (.set (D.map ftD)), .emp, .val L, s6])
  | [] => rfl
  | f :: xs => by
    have t : (eInS true 3 (eVar 4)) (frzE [s0, s1, s2, .own (.set (D.map ftD)), .val (ftD f), .val L, s6]) = .ok (decide (f ∉ D)) := (inS_ft (f := f) (D := D) rfl rfl).trans (by rw [decide_not]; cases decide (f ∈ D) <;> rfl)
    have tg : tgF (Tg.nm 4) (ftD f) [s0, s1, s2, .own (.set (D.map ftD)), .emp, .val L, s6] = .ok [s0, s1, s2, .own (.set (D.map ftD)), .val (ftD f), .val L, s6] := rfl
    rw [List.map_cons, List.find?_cons]
    cases q : decide (f ∉ D) with
    | true =>
      rw [q] at t
      refine forF_exc tg ?_
      unfold B_check_change_0
      exact (seq_exc (c := "NotThere") (fs := [("fact", ftD f)]) (ifT t rfl))
    | false =>
      rw [q] at t
      refine (forF_next (ρ2 := [s0, s1, s2, .own (.set (D.map ftD)), .emp, .val L, s6]) tg ?_).trans (loopA D xs)
      unfold B_check_change_0
      rw [seq_ok (ifF t rfl)]
      rfl
theorem loopB {s0 s1 s2 s5 : Sl} {L : Pyr.D} (D : List Ft) : ∀ xs : List Ft, forF (Tg.nm 4) B_check_change_1 (xs.map ftD) [s0, s1, s2, .own (.set (D.map ftD)), .emp, s5, .val L] = match xs.find? (fun f => decide (f ∈ D)) with
    | some f => .exc "AlreadyThere" [("fact", ftD f)]
    | none => .ok (.next [s0, s1, s2, .own (.set (D.map ftD)), .emp, s5, .val L])
  | [] => rfl
  | f :: xs => by
    have t : (eInS false 3 (eVar 4)) (frzE [s0, s1, s2, .own (.set (D.map ftD)), .val (ftD f), s5, .val L]) = .ok (decide (f ∈ D)) := (inS_ft (f := f) (D := D) rfl rfl).trans (by cases decide (f ∈ D) <;> rfl)
    have tg : tgF (Tg.nm 4) (ftD f) [s0, s1, s2, .own (.set (D.map ftD)), .emp, s5, .val L] = .ok [s0, s1, s2, .own (.set (D.map ftD)), .val (ftD f), s5, .val L] := rfl
    rw [List.map_cons, List.find?_cons]
    cases q : decide (f ∈ D) with
    | true =>
      rw [q] at t
      refine forF_exc tg ?_
      unfold B_check_change_1
      exact (seq_exc (c := "AlreadyThere") (fs := [("fact", ftD f)]) (ifT t rfl))
    | false =>
      rw [q] at t
      refine (forF_next (ρ2 := [s0, s1, s2, .own (.set (D.map ftD)), .emp, s5, .val L]) tg ?_).trans (loopB D xs)
      unfold B_check_change_1
      rw [seq_ok (ifF t rfl)]
      rfl
abbrev cF (S : List Tb) (A B : List GF) (s1 s3 s4 : Sl) : Frm := [.val (.list (S.map tbD)), s1, .val (.tuple [.list (A.map gfD), .list (B.map gfD)]), s3, s4, .val (.list (A.map gfD)), .val (.list (B.map gfD))]
section
variable (S : List Tb) (hS : S.length ≤ 100) (hW : ∀ t ∈ S, Wd t.1)
include hS hW
theorem change_run (D : List Ft) (A B : List GF) (hA : ∀ g ∈ A, GOk g) (hB : ∀ g ∈ B, GOk g) (hD : D.length ≤ 20) : m_check_change [.list (S.map tbD), .list (D.map ftD), .tuple [.list (A.map gfD), .list (B.map gfD)]] = (chC S D A B).r := by
  have h1 := facts_run S hS hW A hA
  have h2 := facts_run S hS hW B hB
  rw [u_check_change, defM_eq (np := 3) rfl]
  show outR (F_check_change [.val (.list (S.map tbD)), .val (.list (D.map ftD)), .val (.tuple [.list (A.map gfD), .list (B.map gfD)]), .emp, .emp, .emp, .emp]) = _
  unfold F_check_change
  refine seqO (ρ' := cF S A B (.val (.list (D.map ftD))) .emp .emp) rfl ?_
  unfold T_check_change_1
  have drx : ∀ (i : Nat) (L : Pyr.D) (c : Str), eVar i (purE (cF S A B (.val (.list (D.map ftD))) .emp .emp)) = .ok L → m_check_facts [.list (S.map tbD), L] = .exc c [] → sDrop (eCall m_check_facts (aC (eVar 0) (aC (eVar i) Pyr.a0))) (cF S A B (.val (.list (D.map ftD))) .emp .emp) = .exc c [] := fun i L c hv hc => by
    unfold sDrop evP
    have : (eCall m_check_facts (aC (eVar 0) (aC (eVar i) Pyr.a0))) (purE (cF S A B (.val (.list (D.map ftD))) .emp .emp)) = .exc c [] := by
      unfold eCall
      rw [aC_ok (show eVar 0 _ = Res.ok (PyData.list (S.map tbD)) from rfl) (aC_ok hv (xs := []) rfl), bind_ok, hc]
      rfl
    rw [this]
    rfl
  have dro : ∀ (i : Nat) (L : Pyr.D), eVar i (purE (cF S A B (.val (.list (D.map ftD))) .emp .emp)) = .ok L → m_check_facts [.list (S.map tbD), L] = .ok (.val .none) → sDrop (eCall m_check_facts (aC (eVar 0) (aC (eVar i) Pyr.a0))) (cF S A B (.val (.list (D.map ftD))) .emp .emp) = .ok (.next (cF S A B (.val (.list (D.map ftD))) .emp .emp)) := fun i L hv hc => by
    unfold sDrop
    rw [evP_ok (call_ok (aC_ok (show eVar 0 _ = Res.ok (PyData.list (S.map tbD)) from rfl) (aC_ok hv (xs := []) rfl)) hc)]
    rfl
  unfold chC
  cases hd : due S none A with
  | tab => rw [hd] at h1; rw [seq_exc (drx 5 _ _ rfl h1)]; rfl
  | row => rw [hd] at h1; rw [seq_exc (drx 5 _ _ rfl h1)]; rfl
  | ord => rw [hd] at h1; rw [seq_exc (drx 5 _ _ rfl h1)]; rfl
  | go =>
    rw [hd] at h1
    rw [seq_ok (dro 5 _ rfl h1)]
    unfold T_check_change_2
    cases hd2 : due S none B with
    | tab => rw [hd2] at h2; rw [seq_exc (drx 6 _ _ rfl h2)]; rfl
    | row => rw [hd2] at h2; rw [seq_exc (drx 6 _ _ rfl h2)]; rfl
    | ord => rw [hd2] at h2; rw [seq_exc (drx 6 _ _ rfl h2)]; rfl
    | go =>
      rw [hd2] at h2
      rw [seq_ok (dro 6 _ rfl h2)]
      unfold T_check_change_3
      rw [seq_ok (ρ' := cF S A B (.val (.list (D.map ftD))) (.own (.set (D.map ftD))) .emp) (setS_ok rfl (set_fts hD))]
      obtain ⟨e1, _⟩ := due_go hW A none hd
      obtain ⟨e2, _⟩ := due_go hW B none hd2
      show outR (T_check_change_4 [.val (.list (S.map tbD)), .val (.list (D.map ftD)), .val (.tuple [.list (A.map gfD), .list (B.map gfD)]), .own (.set (D.map ftD)), .emp, .val (.list (A.map gfD)), .val (.list (B.map gfD))]) = _
      rw [e1, e2]
      show outR (sSeq (sFor (Tg.nm 4) (iF walkD (eVar 5)) B_check_change_0) T_check_change_5 [.emp, .emp, .emp, .own (.set (D.map ftD)), .emp, .val (.list ((A.map gft).map ftD)), .val (.list ((B.map gft).map ftD))]) = _
      have la := loopA (s0 := .emp) (s1 := .emp) (s2 := .emp) (s6 := .val (.list ((B.map gft).map ftD))) (L := .list ((A.map gft).map ftD)) D (A.map gft)
      dsimp only
      cases qa : (A.map gft).find? (fun f => decide (f ∉ D)) with
      | some f =>
        rw [qa] at la
        rw [seq_exc ((for_ok (ds := (A.map gft).map ftD) rfl).trans la)]
        rfl
      | none =>
        rw [qa] at la
        rw [seq_ok ((for_ok (ds := (A.map gft).map ftD) rfl).trans la)]
        have lb := loopB (s0 := .emp) (s1 := .emp) (s2 := .emp) (s5 := .emp) (L := .list ((B.map gft).map ftD)) D (B.map gft)
        have e : T_check_change_5 [.emp, .emp, .emp, .own (.set (D.map ftD)), .emp, .val (.list ((A.map gft).map ftD)), .val (.list ((B.map gft).map ftD))] = forF (Tg.nm 4) B_check_change_1 ((B.map gft).map ftD) [.emp, .emp, .emp, .own (.set (D.map ftD)), .emp, .emp, .val (.list ((B.map gft).map ftD))] := for_ok (ds := (B.map gft).map ftD) rfl
        rw [e, lb]
        dsimp only
        cases (B.map gft).find? (fun f => decide (f ∈ D)) <;> rfl
end
def Oc.nb : Oc → Bool
  | .go => false
  | _ => true
section
variable (S : List Tb) (hS : S.length ≤ 100) (hW : ∀ t ∈ S, Wd t.1)
include hS hW
theorem good_ne (o : Oc) : neD (.tuple [.str o.t]) (.tuple [.str "good"]) = .ok (.bool o.nb) := by cases o <;> kernel_rfl
theorem change_due (D : List Ft) (A B : List GF) (hA : ∀ g ∈ A, GOk g) (hB : ∀ g ∈ B, GOk g) (okD : ∀ f ∈ D, FtOk f) : m__law_change_due [.list (S.map tbD), .list (D.map ftD), .tuple [.list (A.map gfD), .list (B.map gfD)]] = .ok (.val (chC S D A B).t) := by
  have h1 := due_run S hS hW A hA
  have h2 := due_run S hS hW B hB
  rw [u__law_change_due, defM_eq (np := 3) rfl]
  show outR (F__law_change_due [.val (.list (S.map tbD)), .val (.list (D.map ftD)), .val (.tuple [.list (A.map gfD), .list (B.map gfD)]), .emp, .emp, .emp]) = _
  unfold F__law_change_due
  show outR (sSeq (sFor (Tg.nm 3) (iF walkD (eVar 2)) B__law_change_due_0) T__law_change_due_1 [.val (.list (S.map tbD)), .val (.list (D.map ftD)), .val (.tuple [.list (A.map gfD), .list (B.map gfD)]), .emp, .emp, .emp]) = _
  have turn : ∀ (L : List Pyr.D) (o : Oc), m__law_facts_due [.list (S.map tbD), .list L] = .ok (.val (.tuple [.str o.t])) → B__law_change_due_0 [.val (.list (S.map tbD)), .val (.list (D.map ftD)), .val (.tuple [.list (A.map gfD), .list (B.map gfD)]), .val (.list L), .emp, .emp] = match o with
      | .go => .ok (.next [.val (.list (S.map tbD)), .val (.list (D.map ftD)), .val (.tuple [.list (A.map gfD), .list (B.map gfD)]), .emp, .emp, .emp])
      | o => .ok (.ret (.val (.tuple [.str o.t]))) := fun L o h => by
    unfold B__law_change_due_0
    have t : (tE boolD (Pyr.e2 neD (eVar 5) (eN tupD (aC (eC (.str "good")) Pyr.a0)))) (frzE [.val (.list (S.map tbD)), .val (.list (D.map ftD)), .val (.tuple [.list (A.map gfD), .list (B.map gfD)]), .val (.list L), .emp, .val (.tuple [.str o.t])]) = .ok o.nb := (tE_ok ((e2_ok (x := .tuple [.str o.t]) (y := .tuple [.str "good"]) rfl rfl).trans (good_ne S hS hW o))).trans rfl
    rw [seq_ok (ρ' := [.val (.list (S.map tbD)), .val (.list (D.map ftD)), .val (.tuple [.list (A.map gfD), .list (B.map gfD)]), .val (.list L), .emp, .val (.tuple [.str o.t])]) (set_ok (call_ok (xs := [.list (S.map tbD), .list L]) rfl h))]
    cases o with
    | go => rw [seq_ok (ifF t rfl)]; rfl
    | tab => exact seq_ret (ifT t rfl)
    | row => exact seq_ret (ifT t rfl)
    | ord => exact seq_ret (ifT t rfl)
  have t1 := turn _ _ h1
  have t2 := turn _ _ h2
  have tg : ∀ L : List Pyr.D, tgF (Tg.nm 3) (.list L) [.val (.list (S.map tbD)), .val (.list (D.map ftD)), .val (.tuple [.list (A.map gfD), .list (B.map gfD)]), .emp, .emp, .emp] = .ok [.val (.list (S.map tbD)), .val (.list (D.map ftD)), .val (.tuple [.list (A.map gfD), .list (B.map gfD)]), .val (.list L), .emp, .emp] := fun _ => rfl
  have fin : ∀ o : Oc, forF (Tg.nm 3) B__law_change_due_0 [.list (A.map gfD), .list (B.map gfD)] [.val (.list (S.map tbD)), .val (.list (D.map ftD)), .val (.tuple [.list (A.map gfD), .list (B.map gfD)]), .emp, .emp, .emp] = .ok (.ret (.val (.tuple [.str o.t]))) →
      outR (sSeq (sFor (Tg.nm 3) (iF walkD (eVar 2)) B__law_change_due_0) T__law_change_due_1 [.val (.list (S.map tbD)), .val (.list (D.map ftD)), .val (.tuple [.list (A.map gfD), .list (B.map gfD)]), .emp, .emp, .emp]) = .ok (.val (.tuple [.str o.t])) := fun o h => by
    rw [seq_ret ((for_ok (ds := [.list (A.map gfD), .list (B.map gfD)]) rfl).trans h)]
    rfl
  unfold chC
  cases hd : due S none A with
  | tab => rw [hd] at t1; exact fin .tab (forF_ret (tg _) t1)
  | row => rw [hd] at t1; exact fin .row (forF_ret (tg _) t1)
  | ord => rw [hd] at t1; exact fin .ord (forF_ret (tg _) t1)
  | go =>
    rw [hd] at t1
    cases hd2 : due S none B with
    | tab => rw [hd2] at t2; exact fin .tab ((forF_next (tg _) t1).trans (forF_ret (tg _) t2))
    | row => rw [hd2] at t2; exact fin .row ((forF_next (tg _) t1).trans (forF_ret (tg _) t2))
    | ord => rw [hd2] at t2; exact fin .ord ((forF_next (tg _) t1).trans (forF_ret (tg _) t2))
    | go =>
      rw [hd2] at t2
      rw [seq_ok ((for_ok (ds := [.list (A.map gfD), .list (B.map gfD)]) rfl).trans ((forF_next (tg _) t1).trans (forF_next (tg _) t2)))]
      obtain ⟨e1, k1, _⟩ := due_go hW A none hd
      obtain ⟨e2, k2, _⟩ := due_go hW B none hd2
      rw [e1, e2]
      generalize A.map gft = FA at *
      generalize B.map gft = FB at *
      unfold T__law_change_due_1
      show outR (sSeq (sFor (Tg.nm 4) (iF walkD (Pyr.e2 atD (eVar 2) (eC (.int 0)))) B__law_change_due_1) T__law_change_due_2 [.emp, .val (.list (D.map ftD)), .val (.tuple [.list (FA.map ftD), .list (FB.map ftD)]), .emp, .emp, .emp]) = _
      have la : ∀ xs : List Ft, (∀ f ∈ xs, FtOk f) → forF (Tg.nm 4) B__law_change_due_1 (xs.map ftD) [.emp, .val (.list (D.map ftD)), .val (.tuple [.list (FA.map ftD), .list (FB.map ftD)]), .emp, .emp, .emp] = match xs.find? (fun f => decide (f ∉ D)) with
          | some f => .ok (.ret (.val (.tuple [.str "gone", ftD f])))
          | none => .ok (.next [.emp, .val (.list (D.map ftD)), .val (.tuple [.list (FA.map ftD), .list (FB.map ftD)]), .emp, .emp, .emp]) := fun xs => by
        induction xs with
        | nil => exact fun _ => rfl
        | cons f xs ih =>
          intro h
          have t : (tE boolD (Pyr.e2 notInD (eVar 4) (eVar 1))) (frzE [.emp, .val (.list (D.map ftD)), .val (.tuple [.list (FA.map ftD), .list (FB.map ftD)]), .emp, .val (ftD f), .emp]) = .ok (decide (f ∉ D)) := (tE_ok ((e2_ok (x := ftD f) (y := .list (D.map ftD)) rfl rfl).trans (ftE.notInD okD (h f List.mem_cons_self)))).trans (by rw [decide_not]; rfl)
          have tg : tgF (Tg.nm 4) (ftD f) [.emp, .val (.list (D.map ftD)), .val (.tuple [.list (FA.map ftD), .list (FB.map ftD)]), .emp, .emp, .emp] = .ok [.emp, .val (.list (D.map ftD)), .val (.tuple [.list (FA.map ftD), .list (FB.map ftD)]), .emp, .val (ftD f), .emp] := rfl
          rw [List.map_cons, List.find?_cons]
          cases q : decide (f ∉ D) with
          | true =>
            rw [q] at t
            refine forF_ret tg ?_
            unfold B__law_change_due_1
            exact seq_ret (ifT t (ret_ok ((eN_ok (xs := [.str "gone", ftD f]) rfl).trans rfl)))
          | false =>
            rw [q] at t
            refine (forF_next (ρ2 := [.emp, .val (.list (D.map ftD)), .val (.tuple [.list (FA.map ftD), .list (FB.map ftD)]), .emp, .emp, .emp]) tg ?_).trans (ih fun z hz => h z (List.mem_cons_of_mem _ hz))
            unfold B__law_change_due_1
            rw [seq_ok (ifF t rfl)]
            rfl
      have lb : ∀ (s0 s3 s5 : Sl) (xs : List Ft), (∀ f ∈ xs, FtOk f) → forF (Tg.nm 4) B__law_change_due_2 (xs.map ftD) [.emp, .val (.list (D.map ftD)), .val (.tuple [.list (FA.map ftD), .list (FB.map ftD)]), .emp, .emp, .emp] = match xs.find? (fun f => decide (f ∈ D)) with
          | some f => .ok (.ret (.val (.tuple [.str "there", ftD f])))
          | none => .ok (.next [.emp, .val (.list (D.map ftD)), .val (.tuple [.list (FA.map ftD), .list (FB.map ftD)]), .emp, .emp, .emp]) := fun s0 s3 s5 xs => by
        induction xs with
        | nil => exact fun _ => rfl
        | cons f xs ih =>
          intro h
          have t : (tE boolD (Pyr.e2 inD (eVar 4) (eVar 1))) (frzE [.emp, .val (.list (D.map ftD)), .val (.tuple [.list (FA.map ftD), .list (FB.map ftD)]), .emp, .val (ftD f), .emp]) = .ok (decide (f ∈ D)) := (tE_ok ((e2_ok (x := ftD f) (y := .list (D.map ftD)) rfl rfl).trans (ftE.inD okD (h f List.mem_cons_self)))).trans rfl
          have tg : tgF (Tg.nm 4) (ftD f) [.emp, .val (.list (D.map ftD)), .val (.tuple [.list (FA.map ftD), .list (FB.map ftD)]), .emp, .emp, .emp] = .ok [.emp, .val (.list (D.map ftD)), .val (.tuple [.list (FA.map ftD), .list (FB.map ftD)]), .emp, .val (ftD f), .emp] := rfl
          rw [List.map_cons, List.find?_cons]
          cases q : decide (f ∈ D) with
          | true =>
            rw [q] at t
            refine forF_ret tg ?_
            unfold B__law_change_due_2
            exact seq_ret (ifT t (ret_ok ((eN_ok (xs := [.str "there", ftD f]) rfl).trans rfl)))
          | false =>
            rw [q] at t
            refine (forF_next (ρ2 := [.emp, .val (.list (D.map ftD)), .val (.tuple [.list (FA.map ftD), .list (FB.map ftD)]), .emp, .emp, .emp]) tg ?_).trans (ih fun z hz => h z (List.mem_cons_of_mem _ hz))
            unfold B__law_change_due_2
            rw [seq_ok (ifF t rfl)]
            rfl
      have la := la FA fun f hf => (k1 f hf).1
      have lb := lb .emp .emp .emp FB fun f hf => (k2 f hf).1
      dsimp only
      cases qa : FA.find? (fun f => decide (f ∉ D)) with
      | some f =>
        rw [qa] at la
        rw [seq_ret ((for_ok (ds := FA.map ftD) rfl).trans la)]
        rfl
      | none =>
        rw [qa] at la
        rw [seq_ok ((for_ok (ds := FA.map ftD) rfl).trans la)]
        unfold T__law_change_due_2
        show outR (sSeq (sFor (Tg.nm 4) (iF walkD (Pyr.e2 atD (eVar 2) (eC (.int 1)))) B__law_change_due_2) T__law_change_due_3 [.emp, .val (.list (D.map ftD)), .val (.tuple [.list (FA.map ftD), .list (FB.map ftD)]), .emp, .emp, .emp]) = _
        dsimp only
        cases qb : FB.find? (fun f => decide (f ∈ D)) with
        | some f =>
          rw [qb] at lb
          rw [seq_ret ((for_ok (ds := FB.map ftD) rfl).trans lb)]
          rfl
        | none =>
          rw [qb] at lb
          rw [seq_ok ((for_ok (ds := FB.map ftD) rfl).trans lb)]
          rfl
end
/-! ### the class of an error, what is told -/
theorem class_0 (c t : Str) (h : (c, t) ∈ [(("UnknownTable" : Str), ("table" : Str)), ("BadRow", "row"), ("NotAscending", "order"), ("BadSize", "size")]) : m__law_class (xiD c []) = .ok (.val (.tuple [.str t])) := by
  rw [u__law_class]
  simp only [List.mem_cons, List.not_mem_nil, or_false, Prod.mk.injEq] at h
  rcases h with ⟨rfl, rfl⟩ | ⟨rfl, rfl⟩ | ⟨rfl, rfl⟩ | ⟨rfl, rfl⟩ <;> kernel_rfl
theorem class_key (f g : Ft) : m__law_class (xiD "KeyBroken" [("second", ftD g), ("first", ftD f)]) = .ok (.val (.tuple [.str "key", ftD f, ftD g])) := by
  rw [u__law_class]
  kernel_rfl
theorem class_gone (f : Ft) : m__law_class (xiD "NotThere" [("fact", ftD f)]) = .ok (.val (.tuple [.str "gone", ftD f])) := by
  rw [u__law_class]
  kernel_rfl
theorem class_there (f : Ft) : m__law_class (xiD "AlreadyThere" [("fact", ftD f)]) = .ok (.val (.tuple [.str "there", ftD f])) := by
  rw [u__law_class]
  kernel_rfl
abbrev tF (w : Int) (S X C : Pyr.D) (s5 : Sl) : Frm := [.val (.int w), .val S, .val X, .val C, .emp, s5]
noncomputable def tB : Frm → Res Fl := (sIf (tE boolD (Pyr.e2 eqD (eVar 0) (eC (.int 0)))) (sSetP 5 (eCall m_check_facts (aC (eVar 1) (aC (eVar 2) Pyr.a0)))) (sIf (tE boolD (Pyr.e2 eqD (eVar 0) (eC (.int 1)))) (sSetP 5 (eCall m_check_database (aC (eVar 1) (aC (eVar 2) Pyr.a0)))) (sSetP 5 (eCall m_check_change (aC (eVar 1) (aC (eVar 2) (aC (eVar 3) Pyr.a0)))))))
theorem try_val {ct : CtTab} {i : Nat} {Fb Fs : Frm → Res Fl} {ρ : Frm} {r : RV} (h : Fb ρ = .ok (.ret r)) : sTryF ct i Fb Fs ρ = .ok (.ret r) := by
  unfold sTryF
  rw [h]
theorem try_exc {ct : CtTab} {i : Nat} {Fb Fs : Frm → Res Fl} {ρ : Frm} {c : Str} {fs : List (Str × Pyr.D)} {d : Pyr.D} (h : Fb ρ = .exc c fs) (hc : ctT ct c = some true) (hr : Fs (ρ.set i (.own (.exc (xiD c fs)))) = .ok (.ret (.val d))) : sTryF ct i Fb Fs ρ = .ok (.ret (.val d)) := by
  unfold sTryF
  rw [h]
  dsimp only
  rw [hc]
  dsimp only
  rw [hr]
  rfl
theorem seqX_ok {F1 F2 : Frm → Res Fl} {ρ ρ' : Frm} (h : F1 ρ = .ok (.next ρ')) : sSeqX F1 F2 ρ = noXs (F2 ρ') := by
  unfold sSeqX
  rw [h]
theorem seqX_exc {F1 F2 : Frm → Res Fl} {ρ : Frm} {c : Str} {fs : List (Str × Pyr.D)} (h : F1 ρ = .exc c fs) : sSeqX F1 F2 ρ = .exc c fs := by
  unfold sSeqX
  rw [h]
theorem told_good {w : Int} {S X C : Pyr.D} (h : tB (tF w S X C .emp) = .ok (.next (tF w S X C (.val .none)))) : m__law_told [.int w, S, X, C] = .ok (.val (.tuple [.str "good"])) := by
  rw [u__law_told, defM_eq (np := 4) rfl]
  show outR (F__law_told (tF w S X C .emp)) = _
  unfold F__law_told
  refine (congrArg outR (try_val (r := .val (.tuple [.str "good"])) ((seqX_ok (F1 := tB) h).trans ?_))).trans rfl
  rfl
theorem told_exc {w : Int} {S X C d : Pyr.D} {c : Str} {fs : List (Str × Pyr.D)} (h : tB (tF w S X C .emp) = .exc c fs) (hc : ctT ctTab_ViewError c = some true) (hd : m__law_class (xiD c fs) = .ok (.val d)) : m__law_told [.int w, S, X, C] = .ok (.val d) := by
  rw [u__law_told, defM_eq (np := 4) rfl]
  show outR (F__law_told (tF w S X C .emp)) = _
  unfold F__law_told
  refine (congrArg outR (try_exc (c := c) (fs := fs) (d := d) (seqX_exc (F1 := tB) h) hc (ret_ok ?_))).trans rfl
  show (match m__law_class (xiD c fs) with
    | .ok (.val d) => Res.ok d
    | _ => .bad) = _
  rw [hd]
theorem sp_ok {i : Nat} {fe : En → Res Pyr.D} {ρ : Frm} {d : Pyr.D} (h : fe (purE ρ) = .ok d) : sSetP i fe ρ = .ok (.next (ρ.set i (.val d))) := by
  unfold sSetP
  rw [h]
  rfl
theorem sp_exc {i : Nat} {fe : En → Res Pyr.D} {ρ : Frm} {c : Str} {fs : List (Str × Pyr.D)} (h : fe (purE ρ) = .exc c fs) : sSetP i fe ρ = .exc c fs := by
  unfold sSetP
  rw [h]
  rfl
theorem call_exc {m : List Pyr.D → Res RV} {fr : En → Res (List Pyr.D)} {ρ : En} {xs : List Pyr.D} {c : Str} {fs : List (Str × Pyr.D)} (hr : fr ρ = .ok xs) (hm : m xs = .exc c fs) : eCall m fr ρ = .exc c fs := by
  unfold eCall
  rw [hr, bind_ok, hm]
  rfl
section
variable {S X C : Pyr.D} {S0 : List Tb} {sd xd : List Pyr.D}
theorem tB0 {r : Res RV} (h : m_check_facts [S, X] = r) (hS : isLo S = false) (hX : isLo X = false) : (r = .ok (.val .none) → tB (tF 0 S X C .emp) = .ok (.next (tF 0 S X C (.val .none)))) ∧ ∀ c fs, r = .exc c fs → tB (tF 0 S X C .emp) = .exc c fs := by
  have a : (aC (eVar 1) (aC (eVar 2) Pyr.a0)) (purE (tF 0 S X C .emp)) = .ok [S, X] := aC_ok (show (if isLo S then Res.bad else .ok S) = _ by rw [hS]; rfl) (aC_ok (show (if isLo X then Res.bad else .ok X) = _ by rw [hX]; rfl) (xs := []) rfl)
  have t : (tE boolD (Pyr.e2 eqD (eVar 0) (eC (.int 0)))) (frzE (tF 0 S X C .emp)) = .ok true := rfl
  unfold tB
  exact ⟨fun e => by rw [e] at h; exact ifT t (sp_ok (call_ok a h)), fun c fs e => by rw [e] at h; exact ifT t (sp_exc (call_exc a h))⟩
theorem tB1 {r : Res RV} (h : m_check_database [S, X] = r) (hS : isLo S = false) (hX : isLo X = false) : (r = .ok (.val .none) → tB (tF 1 S X C .emp) = .ok (.next (tF 1 S X C (.val .none)))) ∧ ∀ c fs, r = .exc c fs → tB (tF 1 S X C .emp) = .exc c fs := by
  have a : (aC (eVar 1) (aC (eVar 2) Pyr.a0)) (purE (tF 1 S X C .emp)) = .ok [S, X] := aC_ok (show (if isLo S then Res.bad else .ok S) = _ by rw [hS]; rfl) (aC_ok (show (if isLo X then Res.bad else .ok X) = _ by rw [hX]; rfl) (xs := []) rfl)
  have t : (tE boolD (Pyr.e2 eqD (eVar 0) (eC (.int 0)))) (frzE (tF 1 S X C .emp)) = .ok false := rfl
  have t2 : (tE boolD (Pyr.e2 eqD (eVar 0) (eC (.int 1)))) (frzE (tF 1 S X C .emp)) = .ok true := rfl
  unfold tB
  exact ⟨fun e => by rw [e] at h; exact ifF t (ifT t2 (sp_ok (call_ok a h))), fun c fs e => by rw [e] at h; exact ifF t (ifT t2 (sp_exc (call_exc a h)))⟩
theorem tB2 {r : Res RV} (h : m_check_change [S, X, C] = r) (hS : isLo S = false) (hX : isLo X = false) (hC : isLo C = false) : (r = .ok (.val .none) → tB (tF 2 S X C .emp) = .ok (.next (tF 2 S X C (.val .none)))) ∧ ∀ c fs, r = .exc c fs → tB (tF 2 S X C .emp) = .exc c fs := by
  have a : (aC (eVar 1) (aC (eVar 2) (aC (eVar 3) Pyr.a0))) (purE (tF 2 S X C .emp)) = .ok [S, X, C] := aC_ok (show (if isLo S then Res.bad else .ok S) = _ by rw [hS]; rfl) (aC_ok (show (if isLo X then Res.bad else .ok X) = _ by rw [hX]; rfl) (aC_ok (show (if isLo C then Res.bad else .ok C) = _ by rw [hC]; rfl) (xs := []) rfl))
  have t : (tE boolD (Pyr.e2 eqD (eVar 0) (eC (.int 0)))) (frzE (tF 2 S X C .emp)) = .ok false := rfl
  have t2 : (tE boolD (Pyr.e2 eqD (eVar 0) (eC (.int 1)))) (frzE (tF 2 S X C .emp)) = .ok false := rfl
  unfold tB
  exact ⟨fun e => by rw [e] at h; exact ifF t (ifF t2 (sp_ok (call_ok a h))), fun c fs e => by rw [e] at h; exact ifF t (ifF t2 (sp_exc (call_exc a h)))⟩
theorem ctv : ∀ c : Str, c ∈ [("UnknownTable" : Str), "BadRow", "NotAscending", "BadSize", "KeyBroken", "NotThere", "AlreadyThere"] → ctT ctTab_ViewError c = some true := fun c h => by
  simp only [List.mem_cons, List.not_mem_nil, or_false] at h
  rcases h with rfl | rfl | rfl | rfl | rfl | rfl | rfl <;> kernel_rfl
/-- what is told of a fact's fault -/
theorem told_oc {w : Int} (o : Oc) (h : ∀ r : Res RV, r = (match o.x with
    | none => .ok (.val .none)
    | some c => .exc c []) → (r = .ok (.val .none) → tB (tF w S X C .emp) = .ok (.next (tF w S X C (.val .none)))) ∧ ∀ c fs, r = .exc c fs → tB (tF w S X C .emp) = .exc c fs) : m__law_told [.int w, S, X, C] = .ok (.val (.tuple [.str o.t])) := by
  cases o with
  | go => exact told_good ((h _ rfl).1 rfl)
  | tab => exact told_exc ((h _ rfl).2 _ _ rfl) (ctv _ (by decide +kernel)) (class_0 _ _ (by decide +kernel))
  | row => exact told_exc ((h _ rfl).2 _ _ rfl) (ctv _ (by decide +kernel)) (class_0 _ _ (by decide +kernel))
  | ord => exact told_exc ((h _ rfl).2 _ _ rfl) (ctv _ (by decide +kernel)) (class_0 _ _ (by decide +kernel))
end
section
variable (S : List Tb) (hS : S.length ≤ 100) (hW : ∀ t ∈ S, Wd t.1)
include hS hW
theorem told_facts (gs : List GF) (h : ∀ g ∈ gs, GOk g) (C : Pyr.D) : m__law_told [.int 0, .list (S.map tbD), .list (gs.map gfD), C] = .ok (.val (.tuple [.str (due S none gs).t])) :=
  told_oc (due S none gs) fun r hr => tB0 ((facts_run S hS hW gs h).trans hr.symm) rfl rfl
theorem told_database (gs : List GF) (h : ∀ g ∈ gs, GOk g) (hl : gs.length ≤ 100) (C : Pyr.D) : m__law_told [.int 1, .list (S.map tbD), .list (gs.map gfD), C] = .ok (.val (dbC S gs).t) := by
  have hr := database_run S hS hW gs h hl
  cases hd : dbC S gs with
  | ok =>
    rw [hd] at hr
    exact told_good ((tB1 hr rfl rfl).1 rfl)
  | size =>
    rw [hd] at hr
    exact told_exc ((tB1 hr rfl rfl).2 _ _ rfl) (ctv _ (by decide +kernel)) (class_0 _ _ (by decide +kernel))
  | fact o =>
    rw [hd] at hr
    exact told_oc o fun r e => tB1 (hr.trans e.symm) rfl rfl
  | key p =>
    rw [hd] at hr
    exact told_exc ((tB1 hr rfl rfl).2 _ _ rfl) (ctv _ (by decide +kernel)) (class_key p.1 p.2)
theorem told_change (D : List Ft) (A B : List GF) (hA : ∀ g ∈ A, GOk g) (hB : ∀ g ∈ B, GOk g) (hD : D.length ≤ 20) : m__law_told [.int 2, .list (S.map tbD), .list (D.map ftD), .tuple [.list (A.map gfD), .list (B.map gfD)]] = .ok (.val (chC S D A B).t) := by
  have hr := change_run S hS hW D A B hA hB hD
  cases hd : chC S D A B with
  | ok =>
    rw [hd] at hr
    exact told_good ((tB2 hr rfl rfl rfl).1 rfl)
  | fact o =>
    rw [hd] at hr
    exact told_oc o fun r e => tB2 (hr.trans e.symm) rfl rfl rfl
  | gone f =>
    rw [hd] at hr
    exact told_exc ((tB2 hr rfl rfl rfl).2 _ _ rfl) (ctv _ (by decide +kernel)) (class_gone f)
  | there f =>
    rw [hd] at hr
    exact told_exc ((tB2 hr rfl rfl rfl).2 _ _ rfl) (ctv _ (by decide +kernel)) (class_there f)
end
structure SOk (ws : List Str) (S : List Tb) : Prop where
  one : 1 ≤ S.length
  two : S.length ≤ 4
  nm : S.map (·.1) = ws.take S.length
  w : ∀ t ∈ S, 1 ≤ t.2.1 ∧ t.2.1 ≤ 4 ∧ ∀ k, t.2.2 = some k → 1 ≤ k ∧ k ≤ t.2.1
theorem schema_run (vs : List Int) (ws : List Str) (hv : 9 ≤ vs.length) (hw : 4 ≤ ws.length) : ∃ S : List Tb, m__law_schema [.list (vs.map .int), .list (ws.map .str)] = .ok (.own (S.map tbD)) ∧ SOk ws S := by
  have h0 : atD (.list (vs.map .int)) (.int 0) = .ok (.int vs[0]) := int_at (k := 0) (by omega)
  obtain ⟨n0, en, hn0⟩ := fmod_nat vs[0] (m := 8) (by decide)
  have en : vs[0].fmod 8 = (n0 : Int) := en
  obtain ⟨n, hn, hat⟩ : ∃ n : Nat, n ≤ 3 ∧ atD (.list [.int 1, .int 2, .int 1, .int 2, .int 2, .int 3, .int 1, .int 4]) (.int (n0 : Int)) = .ok (.int ((1 + n : Nat) : Int)) := by
    rcases (show n0 = 0 ∨ n0 = 1 ∨ n0 = 2 ∨ n0 = 3 ∨ n0 = 4 ∨ n0 = 5 ∨ n0 = 6 ∨ n0 = 7 by omega) with rfl | rfl | rfl | rfl | rfl | rfl | rfl | rfl
    · exact ⟨0, by decide, rfl⟩
    · exact ⟨1, by decide, rfl⟩
    · exact ⟨0, by decide, rfl⟩
    · exact ⟨1, by decide, rfl⟩
    · exact ⟨1, by decide, rfl⟩
    · exact ⟨2, by decide, rfl⟩
    · exact ⟨0, by decide, rfl⟩
    · exact ⟨3, by decide, rfl⟩
  obtain ⟨S, e, i1, i2, i3⟩ := forF_exN (S := List Tb) (t := Tg.nm 3) (F := B__law_schema_0) (fun S => [.val (.list (vs.map .int)), .val (.list (ws.map .str)), .own (.lst (S.map tbD)), .emp, .emp, .emp])
    (fun k S => S.length = k ∧ S.map (·.1) = ws.take k ∧ ∀ t ∈ S, 1 ≤ t.2.1 ∧ t.2.1 ≤ 4 ∧ ∀ k, t.2.2 = some k → 1 ≤ k ∧ k ≤ t.2.1) (1 + n) 0 [] ⟨rfl, rfl, fun t h => nomatch h⟩ fun k S _ hk ⟨i1, i3, i2⟩ => by
      have lS : (S.map tbD).length = S.length := List.length_map _
      have a1 : atD (.list (vs.map .int)) (.int (1 + 2 * (k : Int))) = .ok (.int vs[1 + 2 * k]) := int_at (k := 1 + 2 * k) (by omega)
      have a2 : atD (.list (vs.map .int)) (.int (2 + 2 * (k : Int))) = .ok (.int vs[2 + 2 * k]) := int_at (k := 2 + 2 * k) (by omega)
      have a3 := str_at (ws := ws) (k := k) (by omega)
      have nm : ∀ t : Tb, t.1 = ws[k] → (S ++ [t]).map (·.1) = ws.take (k + 1) := fun t ht => by
        rw [List.map_append, i3, List.take_succ, List.getElem?_eq_getElem (by omega)]
        show _ ++ [t.1] = _
        rw [ht]
        rfl
      obtain ⟨w, ew, hw'⟩ := fmod_nat vs[1 + 2 * k] (m := 4) (by decide)
      have ew : vs[1 + 2 * k].fmod 4 = (w : Int) := ew
      by_cases q : (0 : Int) < vs[2 + 2 * k].fmod 3
      · obtain ⟨c, ec, hc⟩ := fmod_nat (vs[2 + 2 * k].fdiv 3) (m := 1 + w) (by omega)
        have ec : (vs[2 + 2 * k].fdiv 3).fmod (1 + (w : Int)) = (c : Int) := by rw [show (1 + (w : Int)) = ((1 + w : Nat) : Int) by omega]; exact ec
        refine ⟨S ++ [(ws[k], 1 + w, some (1 + c))], _, rfl, .inl ?_, by rw [List.length_append, i1]; rfl, nm _ rfl, fun t ht => ?_⟩
        · unfold B__law_schema_0
          dsimp! [eL, a1, a2, a3, ew, q, ec, lS, List.map_append, List.map_cons, List.map_nil]
          simp only [tbD, kyD, Int.natCast_add, Int.natCast_one, Int.cast_ofNat_Int]
        · rcases List.mem_append.mp ht with ht | ht
          · exact i2 t ht
          · rw [List.mem_singleton.mp ht]
            exact ⟨by show 1 ≤ 1 + w; omega, by show 1 + w ≤ 4; omega, fun k hk => by cases hk; exact ⟨by omega, by show 1 + c ≤ 1 + w; omega⟩⟩
      · refine ⟨S ++ [(ws[k], 1 + w, none)], _, rfl, .inl ?_, by rw [List.length_append, i1]; rfl, nm _ rfl, fun t ht => ?_⟩
        · unfold B__law_schema_0
          dsimp! [eL, a1, a2, a3, ew, q, lS, List.map_append, List.map_cons, List.map_nil]
          simp only [tbD, kyD, Int.natCast_add, Int.natCast_one, Int.cast_ofNat_Int]
        · rcases List.mem_append.mp ht with ht | ht
          · exact i2 t ht
          · rw [List.mem_singleton.mp ht]
            exact ⟨by show 1 ≤ 1 + w; omega, by show 1 + w ≤ 4; omega, fun k hk => nomatch hk⟩
  rw [Nat.zero_add] at i1 i2
  refine ⟨S, ?_, by omega, by omega, by rw [i2, i1], i3⟩
  have e : forF (Tg.nm 3) B__law_schema_0 (upto 0 (1 + n)) [.val (.list (vs.map .int)), .val (.list (ws.map .str)), .own (.lst []), .emp, .emp, .emp] = .ok (.next [.val (.list (vs.map .int)), .val (.list (ws.map .str)), .own (.lst (S.map tbD)), .emp, .emp, .emp]) := e
  rw [u__law_schema]
  rw [defM_eq (np := 2) rfl]
  show outR (F__law_schema [.val (.list (vs.map .int)), .val (.list (ws.map .str)), .emp, .emp, .emp, .emp]) = _
  unfold F__law_schema
  rw [seq_ok (setL_ok (d := []) rfl)]
  show outR (sSeq _ _ [.val (.list (vs.map .int)), .val (.list (ws.map .str)), .own (.lst []), .emp, .emp, .emp]) = _
  rw [seq_ok (forN (1 + n) (by omega) ?_ e)]
  · rfl
  · refine iF_ok (x := .int ((1 + n : Nat) : Int)) ?_
    have hL : (Pyr.e2 modD (eN (oneD int2D) (aC (Pyr.e2 atD (eVar 0) (eC (.int 0))) Pyr.a0)) (eC (.int 8))) (frzE [.val (.list (vs.map .int)), .val (.list (ws.map .str)), .own (.lst []), .emp, .emp, .emp]) = .ok (.int (n0 : Int)) := by
      dsimp! [eL, h0, en]
    refine (e2_ok (x := .list [.int 1, .int 2, .int 1, .int 2, .int 2, .int 3, .int 1, .int 4]) (y := .int (n0 : Int)) rfl hL).trans hat
theorem lfact_run (S : List Tb) (ws : List Str) (vs : List Int) (hS : 1 ≤ S.length) (hS4 : S.length ≤ 4) (hw : 1 ≤ ws.length) (ht : ∀ t ∈ S, 1 ≤ t.2.1 ∧ t.2.1 ≤ 4) (hv : vs.length = 5) :
    ∃ f : Ft, m__law_fact [.list (S.map tbD), .list (ws.map .str), .list (vs.map .int)] = .ok (.val (ftD f)) ∧ (∃ t ∈ S, t.1 = f.1 ∧ f.2.length = t.2.1) ∧ ∀ w ∈ f.2, w ∈ ws := by
  have lS : (S.map tbD).length = S.length := List.length_map _
  have lw : (ws.map PyData.str).length = ws.length := List.length_map _
  have a0 : atD (.list (vs.map .int)) (.int 0) = .ok (.int vs[0]) := int_at (k := 0) (by omega)
  obtain ⟨n, en, hn⟩ := fmod_nat vs[0] (m := S.length) hS
  have an := tb_at (S := S) hn
  obtain ⟨t1, t2⟩ := ht S[n] (List.getElem_mem hn)
  obtain ⟨g, hg⟩ : ∃ g : Nat → Nat, ∀ k : Nat, ∀ v : Int, vs[1 + k]? = some v → v.fmod (ws.length : Int) = (g k : Int) ∧ g k < ws.length := by
    refine ⟨fun k => ((vs.getD (1 + k) 0).fmod (ws.length : Int)).toNat, fun k v hv => ?_⟩
    obtain ⟨j, ej, hj⟩ := fmod_nat v (m := ws.length) hw
    have : vs.getD (1 + k) 0 = v := by rw [List.getD_eq_getElem?_getD, hv]; rfl
    dsimp only
    rw [this, ej]
    exact ⟨by simp, by simpa using hj⟩
  refine ⟨(S[n].1, (List.range' 0 S[n].2.1).map fun k => ws.getD (g k) Str.empty), ?_, ⟨S[n], List.getElem_mem hn, rfl, by rw [List.length_map, List.length_range']⟩, fun w hw => ?_⟩
  · rw [u__law_fact]
    rw [defM_eq (np := 3) rfl]
    show outR (F__law_fact [.val (.list (S.map tbD)), .val (.list (ws.map .str)), .val (.list (vs.map .int)), .emp, .emp]) = _
    unfold F__law_fact
    have hS0 : (0 : Int) < (S.length : Int) := by omega
    rw [seq_ok (ρ' := [.val (.list (S.map tbD)), .val (.list (ws.map .str)), .val (.list (vs.map .int)), .val (tbD S[n]), .emp]) (by dsimp! [eL, a0, lS, en, an])]
    have hr : r1D (.int (S[n].2.1 : Int)) = .ok ((List.range' 0 S[n].2.1).map fun k : Nat => .int (k : Int)) := (r1D_nat (by show _ ≤ 100000; omega)).trans (congrArg Res.ok (upto_map _ 0))
    have hc : (lComp [4] (Tg.nm 4) (iF r1D (Pyr.e2 atD (eVar 3) (eC (.int 1)))) tYesR (Pyr.e2 atD (eVar 1) (Pyr.e2 modD (eN (oneD int2D) (aC (Pyr.e2 atD (eVar 2) (Pyr.e2 addD (eC (.int 1)) (eVar 4))) Pyr.a0)) (eN (oneD lenD) (aC (eVar 1) Pyr.a0))))) (purE [.val (.list (S.map tbD)), .val (.list (ws.map .str)), .val (.list (vs.map .int)), .val (tbD S[n]), .emp]) = .ok (((List.range' 0 S[n].2.1).map fun k => ws.getD (g k) Str.empty).map .str) := by
      rw [List.map_map]
      refine lComp_ok ((iF_ok (x := .int (S[n].2.1 : Int)) ?_).trans hr) (by rw [List.length_map, List.length_range']; omega) (compF_en _ _ _ fun k hk => ⟨_, rfl, rfl, ?_⟩)
      · dsimp! [eL, v0_tb, tb_1]
      · have hk := (List.mem_range'_1.mp hk).2
        have a1 : atD (.list (vs.map .int)) (.int (1 + (k : Int))) = .ok (.int vs[1 + k]) := int_at (k := 1 + k) (by omega)
        obtain ⟨g1, g2⟩ := hg k vs[1 + k] (List.getElem?_eq_getElem _)
        have a2 := str_at g2
        dsimp! [eL, wipeE, tgE, a1, lw, g1, a2, Function.comp]
        rw [List.getD_eq_getElem?_getD, List.getElem?_eq_getElem g2]
        rfl
    rw [ret_ok (d := ftD (S[n].1, (List.range' 0 S[n].2.1).map fun k => ws.getD (g k) Str.empty))]
    · rfl
    · refine (eN_ok (xs := [.str S[n].1, .tuple (((List.range' 0 S[n].2.1).map fun k => ws.getD (g k) Str.empty).map .str)]) (aC_ok ?_ (aC_ok ?_ rfl))).trans rfl
      · dsimp! [eL, v0_tb, tb_0]
      · show (((Res.map PyData.list (lComp [4] (Tg.nm 4) _ tYesR _ _)).bind fun x => Res.ok [x]).bind (oneD _)) = _
        rw [hc]
        rfl
  · obtain ⟨k, hk, rfl⟩ := List.mem_map.mp hw
    have hk := (List.mem_range'_1.mp hk).2
    obtain ⟨g1, g2⟩ := hg k vs[1 + k] (List.getElem?_eq_getElem (by omega))
    rw [List.getD_eq_getElem?_getD, List.getElem?_eq_getElem g2]
    exact List.getElem_mem _
theorem lfacts_run (S : List Tb) (ws : List Str) (vs : List Int) (m : Nat) (hS : 1 ≤ S.length) (hS4 : S.length ≤ 4) (hw : 1 ≤ ws.length) (ht : ∀ t ∈ S, 1 ≤ t.2.1 ∧ t.2.1 ≤ 4) (hv : 5 * m ≤ vs.length) (hm : m ≤ 1000) :
    ∃ fs : List Ft, m__law_facts [.list (S.map tbD), .list (ws.map .str), .list (vs.map .int), .int (m : Int)] = .ok (.own (fs.map ftD)) ∧ fs.length = m ∧ ∀ f ∈ fs, FtIn S ws f := by
  have hr : r1D (.int (m : Int)) = .ok ((List.range' 0 m).map fun k : Nat => .int (k : Int)) := (r1D_nat (by show _ ≤ 100000; omega)).trans (congrArg Res.ok (upto_map _ 0))
  rw [u__law_facts]
  rw [defM_eq (np := 4) rfl]
  show ∃ fs : List Ft, outR (F__law_facts [.val (.list (S.map tbD)), .val (.list (ws.map .str)), .val (.list (vs.map .int)), .val (.int (m : Int)), .emp]) = _ ∧ _
  unfold F__law_facts
  obtain ⟨ys, e, hl, hy⟩ := compF_exP (t := Tg.nm 4) (tt := tYesR) (fe := eCall m__law_fact (aC (eVar 0) (aC (eVar 1) (aC (eSlice (eVar 2) (oSome (Pyr.e2 mul2D (eC (.int 5)) (eVar 4))) (oSome (Pyr.e2 addD (Pyr.e2 mul2D (eC (.int 5)) (eVar 4)) (eC (.int 5))))) Pyr.a0))))
    (ρ := wipeE (purE [.val (.list (S.map tbD)), .val (.list (ws.map .str)), .val (.list (vs.map .int)), .val (.int (m : Int)), .emp]) [4]) (fun _ y => ∃ f, y = ftD f ∧ FtIn S ws f) ((List.range' 0 m).map fun k : Nat => .int (k : Int)) fun d hd => by
      obtain ⟨k, hk, rfl⟩ := List.mem_map.mp hd
      have hk := (List.mem_range'_1.mp hk).2
      have hc : sliceD (.list (vs.map .int)) (some (5 * (k : Int))) (some (5 * (k : Int) + 5)) = .ok (.list (((vs.drop (5 * k)).take 5).map .int)) := by
        have := cut_map vs (5 * k) (5 * k + 5) (by omega) (by omega)
        rw [show 5 * k + 5 - 5 * k = 5 by omega] at this
        exact congrArg (fun z => Res.ok (PyData.list z)) this
      obtain ⟨f, q1, q2, q3⟩ := lfact_run S ws ((vs.drop (5 * k)).take 5) hS hS4 hw ht (by rw [List.length_take, List.length_drop]; omega)
      refine ⟨_, ftD f, rfl, rfl, ?_, f, rfl, q2, q3⟩
      dsimp! [eL, wipeE, optI, hc, q1]
  obtain ⟨fs, rfl, hf⟩ := unmap ys fun y hy' => (hy y hy').choose_spec.2
  refine ⟨fs, ?_, by rw [List.length_map, List.length_map, List.length_range'] at hl; exact hl, hf⟩
  rw [retL_ok (lComp_ok ((iF_ok (x := .int (m : Int)) rfl).trans hr) (by rw [List.length_map, List.length_range']; omega) e)]
  rfl
structure DOk (S : List Tb) (ws : List Str) (D : List Ft) : Prop where
  fin : ∀ f ∈ D, FtIn S ws f
  nd : D.Nodup
  asc : D.Pairwise fun f g => leF S f g = true
  hold : Holds S D
theorem eL1_ok {g : Pyr.D → Res Pyr.D} {f : En → Res (List Pyr.D)} {ρ : En} {ds : List Pyr.D} (h : f ρ = .ok ds) : eN (oneD g) (aC (eL f) Pyr.a0) ρ = g (.list ds) := one_ok (fa := eL f) (mapL_ok h)
theorem boolsD_map : ∀ bs : List Bool, boolsD (bs.map .bool) = some bs
  | [] => rfl
  | b :: bs => by
    show (boolsD (bs.map .bool)).map (b :: ·) = _
    rw [boolsD_map bs]
    rfl
theorem anyD_bools (bs : List Bool) : anyD (.list (bs.map .bool)) = .ok (.bool (bs.any id)) := by
  show (match boolsD (bs.map .bool) with
    | some bs => _
    | none => _) = _
  rw [boolsD_map]
theorem sameF_symm {S : List Tb} {f g : Ft} (h : sameF S f g = true) : sameF S g f = true := by
  unfold sameF at h ⊢
  simp only [Bool.and_eq_true, decide_eq_true_eq] at h ⊢
  exact ⟨h.2 ▸ h.1, h.2.symm⟩
theorem snoc_ok {α : Type} {P : α → Prop} {xs : List α} {x : α} (h : ∀ y ∈ xs, P y) (hx : P x) : ∀ y ∈ xs ++ [x], P y := fun y hy => by
  rcases List.mem_append.mp hy with hy | hy
  · exact h y hy
  · rw [List.mem_singleton.mp hy]
    exact hx
theorem ldatabase_run (S : List Tb) (ws : List Str) (vs : List Int) (m : Nat) (hS : 1 ≤ S.length) (hS4 : S.length ≤ 4) (hw : 1 ≤ ws.length) (ht : ∀ t ∈ S, 1 ≤ t.2.1 ∧ t.2.1 ≤ 4) (hv : 5 * m ≤ vs.length) (hm : m ≤ 10) (hW : ∀ t ∈ S, Wd t.1) (nd : (S.map (·.1)).Nodup) (hws : ∀ w ∈ ws, Wd w) :
    ∃ D : List Ft, m__law_database [.list (S.map tbD), .list (ws.map .str), .list (vs.map .int), .int (m : Int)] = .ok (.val (.list (D.map ftD))) ∧ D.length ≤ m ∧ DOk S ws D := by
  obtain ⟨fs, ef, lf, hf⟩ := lfacts_run S ws vs m hS hS4 hw ht hv (by omega)
  obtain ⟨kept, ek, _, i1, i2, i3⟩ : ∃ kept : List Ft, forF (Tg.nm 5) B__law_database_0 (fs.map ftD) [.val (.list (S.map tbD)), .val (.list (ws.map .str)), .val (.list (vs.map .int)), .val (.int (m : Int)), .own (.lst []), .emp, .emp] = .ok (.next [.val (.list (S.map tbD)), .val (.list (ws.map .str)), .val (.list (vs.map .int)), .val (.int (m : Int)), .own (.lst (kept.map ftD)), .emp, .emp]) ∧ True ∧ kept.length ≤ fs.length ∧ (∀ f ∈ kept, FtIn S ws f) ∧ Holds S kept := by
    obtain ⟨kept, e, i1, i2, i3⟩ := forF_exL (S := List Ft) (t := Tg.nm 5) (F := B__law_database_0) (fun kept => [.val (.list (S.map tbD)), .val (.list (ws.map .str)), .val (.list (vs.map .int)), .val (.int (m : Int)), .own (.lst (kept.map ftD)), .emp, .emp]) (fun k kept => kept.length ≤ k ∧ (∀ f ∈ kept, FtIn S ws f) ∧ Holds S kept) (fs.map ftD) 0 [] ⟨Nat.le_refl _, (fun f h => nomatch h), fun f h => nomatch h⟩ fun k kept d hd ⟨i1, i2, i3⟩ => by
      obtain ⟨f, hfk, rfl⟩ : ∃ f, fs[k]? = some f ∧ d = ftD f := by
        rw [List.getElem?_map] at hd
        cases q : fs[k]? with
        | none => rw [q] at hd; cases hd
        | some f => rw [q] at hd; cases hd; exact ⟨f, rfl, rfl⟩
      have hfi := hf f (List.mem_of_getElem? hfk)
      have kl : k < fs.length := (List.getElem?_eq_some_iff.mp hfk).1
      have ok := ft_ok hW hws hfi
      have lk : (kept.map ftD).length + 1 ≤ LIM := by rw [List.length_map]; show _ ≤ 100000; omega
      have hc : lComp [6] (Tg.nm 6) (iF walkD (eVar 4)) tYesR (eCall m__law_same_key (aC (eVar 0) (aC (eVar 6) (aC (eVar 5) Pyr.a0)))) (frzE [.val (.list (S.map tbD)), .val (.list (ws.map .str)), .val (.list (vs.map .int)), .val (.int (m : Int)), .own (.lst (kept.map ftD)), .val (ftD f), .emp]) = .ok ((kept.map fun g => sameF S g f).map .bool) := by
        rw [List.map_map]
        refine lComp_ok (ds := kept.map ftD) rfl (by rw [List.length_map]; omega) (compF_en ftD (PyData.bool ∘ fun g => sameF S g f) kept fun g hg => ⟨_, rfl, rfl, ?_⟩)
        have okg := ft_ok hW hws (i2 g hg)
        exact (call_ok (xs := [.list (S.map tbD), ftD g, ftD f]) rfl (lsame_run S g f hW nd okg.1 ok.1 okg.2)).trans rfl
      have ht : (tNotR (tE truD (eN (oneD anyD) (aC (eL (lComp [6] (Tg.nm 6) (iF walkD (eVar 4)) tYesR (eCall m__law_same_key (aC (eVar 0) (aC (eVar 6) (aC (eVar 5) Pyr.a0)))))) Pyr.a0)))) (frzE [.val (.list (S.map tbD)), .val (.list (ws.map .str)), .val (.list (vs.map .int)), .val (.int (m : Int)), .own (.lst (kept.map ftD)), .val (ftD f), .emp]) = .ok (!kept.any fun g => sameF S g f) := by
        refine not_ok ((tE_ok ((eL1_ok (g := anyD) hc).trans (anyD_bools _))).trans ?_)
        rw [List.any_map]
        rfl
      by_cases q : (kept.any fun g => sameF S g f) = true
      · refine ⟨kept, [.val (.list (S.map tbD)), .val (.list (ws.map .str)), .val (.list (vs.map .int)), .val (.int (m : Int)), .own (.lst (kept.map ftD)), .val (ftD f), .emp], rfl, .inl ?_, by omega, i2, i3⟩
        unfold B__law_database_0
        rw [q] at ht
        rw [seq_ok ((if_ok ht).trans rfl)]
        rfl
      · have q' : (kept.any fun g => sameF S g f) = false := by simpa using q
        refine ⟨kept ++ [f], [.val (.list (S.map tbD)), .val (.list (ws.map .str)), .val (.list (vs.map .int)), .val (.int (m : Int)), .own (.lst (kept.map ftD)), .val (ftD f), .emp], rfl, .inl ?_, by rw [List.length_append, List.length_singleton]; omega, snoc_ok i2 hfi, ?_⟩
        · unfold B__law_database_0
          rw [q'] at ht
          have h2 : sApp 4 (eVar 5) [.val (.list (S.map tbD)), .val (.list (ws.map .str)), .val (.list (vs.map .int)), .val (.int (m : Int)), .own (.lst (kept.map ftD)), .val (ftD f), .emp] = .ok (.next [.val (.list (S.map tbD)), .val (.list (ws.map .str)), .val (.list (vs.map .int)), .val (.int (m : Int)), .own (.lst (kept.map ftD ++ [ftD f])), .val (ftD f), .emp]) := Pyr.app_ok rfl rfl lk
          rw [seq_ok ((if_ok ht).trans ((if_pos rfl).trans h2)), List.map_append]
          rfl
        · have no : ∀ g ∈ kept, sameF S g f = false := fun g hg => by
            have := List.any_eq_false.mp q' g hg
            simpa using this
          intro a ha b hb hab
          rcases List.mem_append.mp ha with xa | xa <;> rcases List.mem_append.mp hb with xb | xb
          · exact i3 a xa b xb hab
          · rw [List.mem_singleton.mp xb, no a xa] at hab
            cases hab
          · have := sameF_symm hab
            rw [List.mem_singleton.mp xa, no b xb] at this
            cases this
          · rw [List.mem_singleton.mp xa, List.mem_singleton.mp xb]
    rw [List.length_map, Nat.zero_add] at i1
    exact ⟨kept, e, trivial, i1, i2, i3⟩
  have ins : InS S kept := fun f hf' => ft_ok hW hws (i2 f hf')
  have ea := asc_run S kept (by omega) (by omega) ins
  have ea : m__law_ascending [.list (S.map tbD), .list (kept.map ftD)] = .ok (.own ((ascF S kept).map ftD)) := ea
  have mem : ∀ f, f ∈ ascF S kept ↔ f ∈ kept := fun f => asc_mem
  have ndA : (ascF S kept).Nodup := asc_nodup S kept
  refine ⟨ascF S kept, ?_, ?_, fun f hf' => i2 f ((mem f).mp hf'), ndA, asc_sorted S kept, fun f hf' g hg h => i3 f ((mem f).mp hf') g ((mem g).mp hg) h⟩
  · rw [u__law_database]
    rw [defM_eq (np := 4) rfl]
    show outR (F__law_database [.val (.list (S.map tbD)), .val (.list (ws.map .str)), .val (.list (vs.map .int)), .val (.int (m : Int)), .emp, .emp, .emp]) = _
    unfold F__law_database
    refine seqO (setL_ok (d := []) rfl) ?_
    show outR (sSeq (sFor (Tg.nm 5) _ B__law_database_0) _ [.val (.list (S.map tbD)), .val (.list (ws.map .str)), .val (.list (vs.map .int)), .val (.int (m : Int)), .own (.lst []), .emp, .emp]) = _
    refine seqO ((for_ok (ds := fs.map ftD) ((iF_ok (x := .list (fs.map ftD)) (call_ok (xs := [.list (S.map tbD), .list (ws.map .str), .list (vs.map .int), .int (m : Int)]) rfl ef)).trans rfl)).trans ek) ?_
    show outR (sRet _ [.val (.list (S.map tbD)), .val (.list (ws.map .str)), .val (.list (vs.map .int)), .val (.int (m : Int)), .val (.list (kept.map ftD)), .emp, .emp]) = _
    exact congrArg outR (ret_ok (d := .list ((ascF S kept).map ftD)) (call_ok (xs := [.list (S.map tbD), .list (kept.map ftD)]) rfl ea))
  · have := nodup_le _ kept ndA fun f hf' => (mem f).mp hf'
    omega
theorem cut1 {α : Type} (xs : List α) : cutG xs (some 1) none = xs.drop 1 := by
  have : ∀ k : Nat, cutG xs (some (k : Int)) none = (xs.drop (min k xs.length)).take (xs.length - min k xs.length) := fun k => by
    unfold cutG
    rw [HT.sIx_nat]
    rfl
  rw [show (1 : Int) = ((1 : Nat) : Int) from rfl, this 1, List.take_of_length_le (by rw [List.length_drop]; omega)]
  cases xs with
  | nil => rfl
  | cons x xs => rw [Nat.min_eq_left (by simp)]
/-! ### spoilt facts -/
structure GN (n : Nat) (g : GF) : Prop where
  ce : ∀ d ∈ g.r, CeO d
  len : g.r.length ≤ n
  nm : ∀ x, g.n = some x → x.length ≤ 100 ∧ LetS x
theorem GN.up {m n : Nat} (h : m ≤ n) {g : GF} (k : GN m g) : GN n g := ⟨k.ce, Nat.le_trans k.len h, k.nm⟩
theorem GN.ok {n : Nat} (h : n ≤ 50) {g : GF} (k : GN n g) : GOk g := ⟨k.ce, Nat.le_trans k.len h⟩
theorem mod_ok {fe : En → Res Pyr.D} {ρ : En} {x c r : Int} (h : fe ρ = .ok (.int x)) (hm : modD (.int x) (.int c) = .ok (.int r)) : (Pyr.e2 modD (eN (oneD int2D) (aC fe Pyr.a0)) (eC (.int c))) ρ = .ok (.int r) := by
  have h1 : (eN (oneD int2D) (aC fe Pyr.a0)) ρ = .ok (.int x) := (one_ok h).trans rfl
  have h2 : (eC (.int c)) ρ = .ok (.int c) := rfl
  exact (e2_ok h1 h2).trans hm
theorem put_ok {i : Nat} {fj fe : En → Res Pyr.D} {ρ : Frm} {ds : List Pyr.D} {d : Pyr.D} {k : Nat} (h : ρ[i]? = some (Sl.own (.lst ds))) (he : fe (purE ρ) = .ok d) (hj : fj (purE ρ) = .ok (.int (k : Int))) (hk : k < ds.length) : sPut i fj fe ρ = .ok (.next (ρ.set i (.own (.lst (ds.set k d))))) := by
  unfold sPut
  rw [h]
  show (evP fe ρ).bind _ = _
  rw [evP_ok he, bind_ok, evP_ok hj, bind_ok]
  have : ixN ds.length (k : Int) = some k := Com2.ixN_nat hk
  dsimp only
  rw [this]
theorem insL_ok {i : Nat} {fj fe : En → Res Pyr.D} {ρ : Frm} {ds : List Pyr.D} {d : Pyr.D} {k : Nat} (h : ρ[i]? = some (Sl.own (.lst ds))) (he : fe (purE ρ) = .ok d) (hj : fj (purE ρ) = .ok (.int (k : Int))) (hk : k < 1000) (hl : ds.length + 1 ≤ 100000) : sIns i fj fe ρ = .ok (.next (ρ.set i (.own (.lst (ds.take k ++ [d] ++ ds.drop k))))) := by
  unfold sIns
  rw [h]
  show (evP fj ρ).bind _ = _
  rw [evP_ok hj, bind_ok, evP_ok he, bind_ok]
  dsimp only
  rw [if_pos ⟨by omega, by omega⟩, okL_ok hl]
  rfl
abbrev sF (S : List Tb) (ws : List Str) (gs : List GF) (vs : List Int) (s4 s5 s6 s7 s8 : Sl) : Frm := [.val (.list (S.map tbD)), .val (.list (ws.map .str)), .val (.list (gs.map gfD)), .val (.list (vs.map .int)), s4, s5, s6, s7, s8]
theorem add_tup (a b : List Pyr.D) (h : a.length + b.length ≤ 100000) : addD (.tuple a) (.tuple b) = .ok (.tuple (a ++ b)) := okL_ok h
theorem tup_ok {fr : En → Res (List Pyr.D)} {ρ : En} {xs : List Pyr.D} (h : fr ρ = .ok xs) (hl : xs.length ≤ 100000) : eN tupD fr ρ = .ok (.tuple xs) := (eN_ok h).trans (okL_ok hl)
theorem spoilt_run (S : List Tb) (ws : List Str) (gs : List GF) (vs : List Int) (n : Nat) (hS : 1 ≤ S.length) (hW : ∀ t ∈ S, Wd t.1) (hw : 1 ≤ ws.length) (hws : ∀ w ∈ ws, Wd w) (hv : vs.length = 3) (hg : ∀ g ∈ gs, GN n g) (hn : n ≤ 40) (hl : gs.length ≤ 100) :
    ∃ hs : List GF, m__law_spoilt [.list (S.map tbD), .list (ws.map .str), .list (gs.map gfD), .list (vs.map .int)] = .ok (.own (hs.map gfD)) ∧ (∀ g ∈ hs, GN (n + 1) g) ∧ hs.length ≤ gs.length + 1 := by
  have lG : (gs.map gfD).length = gs.length := List.length_map _
  have up : ∀ g ∈ gs, GN (n + 1) g := fun g h => (hg g h).up (by omega)
  have at1 : ∀ (ρ : En) (k : Nat) (hk : k < vs.length), eVar 3 ρ = .ok (.list (vs.map .int)) → (Pyr.e2 atD (eVar 3) (eC (.int (k : Int)))) ρ = .ok (.int vs[k]) := fun ρ k hk hv => (e2_ok hv (y := .int (k : Int)) rfl).trans (int_at hk)
  have hlen : ∀ ρ : En, eVar 2 ρ = .ok (.list (gs.map gfD)) → (eN (oneD lenD) (aC (eVar 2) Pyr.a0)) ρ = .ok (.int (gs.length : Int)) := fun ρ h => (one_ok h).trans (by show Res.ok (PyData.int (((gs.map gfD).length : Nat) : Int)) = _; rw [lG])
  obtain ⟨k, ek, hk⟩ := fmod_nat vs[0] (m := 8) (by decide)
  have ek : vs[0].fmod 8 = (k : Int) := ek
  rw [u__law_spoilt, defM_eq (np := 4) rfl]
  show ∃ hs : List GF, outR (F__law_spoilt (sF S ws gs vs .emp .emp .emp .emp .emp)) = _ ∧ _
  unfold F__law_spoilt
  rw [seq_ok (ρ' := sF S ws gs vs (.own (.lst (gs.map gfD))) .emp .emp .emp .emp) rfl]
  unfold T__law_spoilt_1
  rw [seq_ok (ρ' := sF S ws gs vs (.own (.lst (gs.map gfD))) (.val (.int (k : Int))) .emp .emp .emp) (set_ok (mod_ok (at1 _ 0 (by omega) rfl) (by rw [← ek]; rfl)))]
  unfold T__law_spoilt_2
  have t2 : (tOrR (tE boolD (Pyr.e2 gtD (eVar 5) (eC (.int 4)))) (tE boolD (Pyr.e2 eqD (eN (oneD lenD) (aC (eVar 2) Pyr.a0)) (eC (.int 0))))) (frzE (sF S ws gs vs (.own (.lst (gs.map gfD))) (.val (.int (k : Int))) .emp .emp .emp)) = .ok (decide (4 < k) || decide (gs.length = 0)) := by
    refine or_ok (a := decide (4 < k)) (b := decide (gs.length = 0)) ?_ fun _ => ?_
    · refine (tE_ok (x := .bool (decide ((4 : Int) < (k : Int)))) ((e2_ok (x := .int (k : Int)) (y := .int 4) rfl rfl).trans rfl)).trans ?_
      show Res.ok (decide ((4 : Int) < (k : Int))) = _
      congr 1
      rw [decide_eq_decide]
      omega
    · refine (tE_ok (x := .bool (decide ((gs.length : Int) = 0))) ((e2_ok (x := .int (gs.length : Int)) (y := .int 0) (hlen _ rfl) rfl).trans (eqD_int _ _))).trans ?_
      show Res.ok (decide ((gs.length : Int) = 0)) = _
      congr 1
      rw [decide_eq_decide]
      omega
  by_cases q : 4 < k ∨ gs.length = 0
  · have e : (decide (4 < k) || decide (gs.length = 0)) = true := by rw [Bool.or_eq_true, decide_eq_true_eq, decide_eq_true_eq]; exact q
    rw [e] at t2
    rw [seq_ret (r := .own (gs.map gfD)) (ifT t2 rfl)]
    exact ⟨gs, rfl, up, by omega⟩
  have e : (decide (4 < k) || decide (gs.length = 0)) = false := by
    rw [Bool.or_eq_false_iff, decide_eq_false_iff_not, decide_eq_false_iff_not]
    exact ⟨fun h => q (.inl h), fun h => q (.inr h)⟩
  rw [e] at t2
  have k4 : k ≤ 4 := by omega
  have g1 : 1 ≤ gs.length := by omega
  rw [seq_ok (ifF t2 rfl)]
  unfold T__law_spoilt_3
  obtain ⟨a, ea, ha⟩ := fmod_nat vs[1] (m := gs.length) g1
  have g0 : (0 : Int) < (gs.length : Int) := by omega
  rw [seq_ok (ρ' := sF S ws gs vs (.own (.lst (gs.map gfD))) (.val (.int (k : Int))) (.val (.int (a : Int))) .emp .emp) (set_ok (by
    have h1 : (eN (oneD int2D) (aC (Pyr.e2 atD (eVar 3) (eC (.int 1))) Pyr.a0)) (purE (sF S ws gs vs (.own (.lst (gs.map gfD))) (.val (.int (k : Int))) .emp .emp .emp)) = .ok (.int vs[1]) := (one_ok (at1 _ 1 (by omega) rfl)).trans rfl
    refine (e2_ok h1 (hlen _ rfl)).trans ?_
    rw [← ea]
    exact modD_int (by omega)))]
  unfold T__law_spoilt_4
  have ag : atD (.list (gs.map gfD)) (.int (a : Int)) = .ok (gfD gs[a]) := at_list (by rw [List.getElem?_map, List.getElem?_eq_getElem ha]; rfl)
  generalize hga : gs[a] = g at *
  have gm : GN n g := hg g (hga ▸ List.getElem_mem ha)
  have s4 : sSetT (Tg.tp [7, 8]) (Pyr.e2 atD (eVar 2) (eVar 6)) (sF S ws gs vs (.own (.lst (gs.map gfD))) (.val (.int (k : Int))) (.val (.int (a : Int))) .emp .emp) = .ok (.next (sF S ws gs vs (.own (.lst (gs.map gfD))) (.val (.int (k : Int))) (.val (.int (a : Int))) (.val (nmD g.n)) (.val (.tuple g.r)))) := by
    unfold sSetT
    rw [evP_ok ((e2_ok (x := .list (gs.map gfD)) (y := .int (a : Int)) rfl rfl).trans ag)]
    rfl
  rw [seq_ok s4]
  unfold T__law_spoilt_5
  have d2 : ∀ (m : Nat) (ρ : En), 1 ≤ m → eVar 3 ρ = .ok (.list (vs.map .int)) → ∃ j : Nat, j < m ∧ (Pyr.e2 modD (eN (oneD int2D) (aC (Pyr.e2 atD (eVar 3) (eC (.int 2))) Pyr.a0)) (eC (.int (m : Int)))) ρ = .ok (.int (j : Int)) := fun m ρ hm hv => by
    obtain ⟨j, ej, hj⟩ := fmod_nat vs[2] (m := m) hm
    exact ⟨j, hj, mod_ok (at1 ρ 2 (by omega) hv) ((modD_int (by omega)).trans (by rw [ej]))⟩
  have kt : ∀ (c : Nat), (tE boolD (Pyr.e2 eqD (eVar 5) (eC (.int (c : Int))))) (frzE (sF S ws gs vs (.own (.lst (gs.map gfD))) (.val (.int (k : Int))) (.val (.int (a : Int))) (.val (nmD g.n)) (.val (.tuple g.r)))) = .ok (decide (k = c)) := fun c => by
    refine (tE_ok (x := .bool (decide ((k : Int) = (c : Int)))) ((e2_ok (x := .int (k : Int)) (y := .int (c : Int)) rfl rfl).trans (eqD_int _ _))).trans ?_
    show Res.ok (decide ((k : Int) = (c : Int))) = _
    congr 1
    rw [decide_eq_decide]
    omega
  have fin : ∀ (F : Frm → Res Fl) (hs : List GF), F (sF S ws gs vs (.own (.lst (gs.map gfD))) (.val (.int (k : Int))) (.val (.int (a : Int))) (.val (nmD g.n)) (.val (.tuple g.r))) = .ok (.next (sF S ws gs vs (.own (.lst (hs.map gfD))) (.val (.int (k : Int))) (.val (.int (a : Int))) (.val (nmD g.n)) (.val (.tuple g.r)))) →
      outR (sSeq F T__law_spoilt_6 (sF S ws gs vs (.own (.lst (gs.map gfD))) (.val (.int (k : Int))) (.val (.int (a : Int))) (.val (nmD g.n)) (.val (.tuple g.r)))) = .ok (.own (hs.map gfD)) := fun F hs h => by
    rw [seq_ok h]
    rfl
  have setok : ∀ z : GF, GN (n + 1) z → (∀ x ∈ gs.set a z, GN (n + 1) x) ∧ (gs.set a z).length ≤ gs.length + 1 := fun z hz => ⟨fun x hx => by
    rcases List.mem_or_eq_of_mem_set hx with h | h
    · exact up x h
    · rw [h]; exact hz, by rw [List.length_set]; omega⟩
  have v7 : ∀ ρ : En, ρ[7]? = some (some (nmD g.n)) → eVar 7 ρ = .ok (nmD g.n) := fun ρ h => by
    unfold eVar
    rw [h]
    cases g.n <;> rfl
  have putz : ∀ (fe : En → Res Pyr.D) (z : GF), fe (purE (sF S ws gs vs (.own (.lst (gs.map gfD))) (.val (.int (k : Int))) (.val (.int (a : Int))) (.val (nmD g.n)) (.val (.tuple g.r)))) = .ok (gfD z) → sPut 4 (eVar 6) fe (sF S ws gs vs (.own (.lst (gs.map gfD))) (.val (.int (k : Int))) (.val (.int (a : Int))) (.val (nmD g.n)) (.val (.tuple g.r))) = .ok (.next (sF S ws gs vs (.own (.lst ((gs.set a z).map gfD))) (.val (.int (k : Int))) (.val (.int (a : Int))) (.val (nmD g.n)) (.val (.tuple g.r)))) := fun fe z h => by
    rw [List.map_set]
    exact put_ok (k := a) rfl h rfl (by rw [lG]; exact ha)
  have w0 : (Pyr.e2 atD (eVar 1) (eC (.int 0))) (purE (sF S ws gs vs (.own (.lst (gs.map gfD))) (.val (.int (k : Int))) (.val (.int (a : Int))) (.val (nmD g.n)) (.val (.tuple g.r)))) = .ok (.str ws[0]) := (e2_ok (x := .list (ws.map .str)) (y := .int 0) rfl rfl).trans (str_at (k := 0) hw)
  have n0 : (Pyr.e2 atD (Pyr.e2 atD (eVar 0) (eC (.int 0))) (eC (.int 0))) (purE (sF S ws gs vs (.own (.lst (gs.map gfD))) (.val (.int (k : Int))) (.val (.int (a : Int))) (.val (nmD g.n)) (.val (.tuple g.r)))) = .ok (.str S[0].1) := (e2_ok (x := tbD S[0]) (y := .int 0) ((e2_ok (x := .list (S.map tbD)) (y := .int 0) rfl rfl).trans (tb_at (k := 0) hS)) rfl).trans (tb_0 _)
  have sl : (eSlice (eVar 8) (oSome (eC (.int 1))) oNone) (purE (sF S ws gs vs (.own (.lst (gs.map gfD))) (.val (.int (k : Int))) (.val (.int (a : Int))) (.val (nmD g.n)) (.val (.tuple g.r)))) = .ok (.tuple (g.r.drop 1)) := by
    show Res.ok (PyData.tuple (cutG g.r (some 1) none)) = _
    rw [cut1]
  have gl := gm.len
  have ld : (g.r.drop 1).length ≤ g.r.length := by rw [List.length_drop]; omega
  have W0 : Wd S[0].1 := hW _ (List.getElem_mem _)
  rcases (show k = 0 ∨ k = 1 ∨ k = 2 ∨ k = 3 ∨ k = 4 by omega) with rfl | rfl | rfl | rfl | rfl
  · obtain ⟨j, hj, ej⟩ := d2 2 (purE (sF S ws gs vs (.own (.lst (gs.map gfD))) (.val (.int ((0 : Nat) : Int))) (.val (.int (a : Int))) (.val (nmD g.n)) (.val (.tuple g.r)))) (by decide) rfl
    have lq : ("q" : Str).length = 1 := by decide +kernel
    have lw0 := W0.2.1
    have nq : addD (.str S[0].1) (.str "q") = .ok (.str (S[0].1 ++ "q")) := addD_str (by rw [lq]; show _ ≤ 100000; omega)
    have li : (eL (lN (aC (Pyr.e2 addD (Pyr.e2 atD (Pyr.e2 atD (eVar 0) (eC (.int 0))) (eC (.int 0))) (eC (.str "q"))) (aC (eC .none) Pyr.a0)))) (purE (sF S ws gs vs (.own (.lst (gs.map gfD))) (.val (.int ((0 : Nat) : Int))) (.val (.int (a : Int))) (.val (nmD g.n)) (.val (.tuple g.r)))) = .ok (.list [.str (S[0].1 ++ "q"), .none]) := mapL_ok (by
      unfold lN
      rw [aC_ok ((e2_ok n0 (y := .str "q") rfl).trans nq) (aC_ok (show (eC .none) _ = Res.ok PyData.none from rfl) (xs := []) rfl), bind_ok]
      rfl)
    have go : ∀ (m : Option Str), atD (.list [.str (S[0].1 ++ "q"), .none]) (.int (j : Int)) = .ok (nmD m) → (eN tupD (aC (Pyr.e2 atD (eL (lN (aC (Pyr.e2 addD (Pyr.e2 atD (Pyr.e2 atD (eVar 0) (eC (.int 0))) (eC (.int 0))) (eC (.str "q"))) (aC (eC .none) Pyr.a0)))) (Pyr.e2 modD (eN (oneD int2D) (aC (Pyr.e2 atD (eVar 3) (eC (.int 2))) Pyr.a0)) (eC (.int ((2 : Nat) : Int))))) (aC (eVar 8) Pyr.a0))) (purE (sF S ws gs vs (.own (.lst (gs.map gfD))) (.val (.int ((0 : Nat) : Int))) (.val (.int (a : Int))) (.val (nmD g.n)) (.val (.tuple g.r)))) = .ok (gfD ⟨m, g.r⟩) := fun m hm =>
      tup_ok (xs := [nmD m, .tuple g.r]) (aC_ok ((e2_ok li ej).trans hm) (aC_ok (show eVar 8 _ = Res.ok (PyData.tuple g.r) from rfl) (xs := []) (show Pyr.a0 _ = Res.ok [] from rfl))) (show 2 ≤ 100000 by decide)
    have sk : ∀ m : Option Str, (∀ x, m = some x → x.length ≤ 100 ∧ LetS x) → GN (n + 1) ⟨m, g.r⟩ := fun m hm => ⟨gm.ce, by show g.r.length ≤ n + 1; omega, hm⟩
    rcases (show j = 0 ∨ j = 1 by omega) with rfl | rfl
    · exact ⟨_, fin _ _ (ifT (kt 0) (putz _ _ (go (some (S[0].1 ++ "q")) (at_list (k := 0) rfl)))), setok _ (sk _ fun x hx => by
        cases hx
        refine ⟨by rw [Str.length_append, lq]; omega, fun c hc => ?_⟩
        simp only [Str.cps_append, Array.toList_append, List.mem_append] at hc
        rcases hc with hc | hc
        · exact W0.2.2 c hc
        · have hq : ("q" : Str).cps.toList = [113] := by decide +kernel
          rw [hq, List.mem_singleton] at hc
          rw [hc]
          decide +kernel)⟩
    · exact ⟨_, fin _ _ (ifT (kt 0) (putz _ _ (go none (at_list (k := 1) rfl)))), setok _ (sk _ fun x hx => nomatch hx)⟩
  · obtain ⟨j, hj, ej⟩ := d2 3 (purE (sF S ws gs vs (.own (.lst (gs.map gfD))) (.val (.int ((1 : Nat) : Int))) (.val (.int (a : Int))) (.val (nmD g.n)) (.val (.tuple g.r)))) (by decide) rfl
    have li : (eL (lN (aC (Pyr.e2 addD (eVar 8) (eN tupD (aC (Pyr.e2 atD (eVar 1) (eC (.int 0))) Pyr.a0))) (aC (eSlice (eVar 8) (oSome (eC (.int 1))) oNone) (aC (eN tupD Pyr.a0) Pyr.a0))))) (purE (sF S ws gs vs (.own (.lst (gs.map gfD))) (.val (.int ((1 : Nat) : Int))) (.val (.int (a : Int))) (.val (nmD g.n)) (.val (.tuple g.r)))) = .ok (.list [.tuple (g.r ++ [.str ws[0]]), .tuple (g.r.drop 1), .tuple []]) := mapL_ok (by
      unfold lN
      rw [aC_ok ((e2_ok (x := .tuple g.r) (y := .tuple [.str ws[0]]) rfl ((eN_ok (aC_ok w0 (xs := []) rfl)).trans rfl)).trans (add_tup _ _ (by show g.r.length + 1 ≤ 100000; omega))) (aC_ok sl (aC_ok (show (eN tupD Pyr.a0) _ = Res.ok (PyData.tuple []) from rfl) (xs := []) rfl)), bind_ok]
      rfl)
    have go : ∀ (r : List Pyr.D), atD (.list [.tuple (g.r ++ [.str ws[0]]), .tuple (g.r.drop 1), .tuple []]) (.int (j : Int)) = .ok (.tuple r) → (eN tupD (aC (eVar 7) (aC (Pyr.e2 atD (eL (lN (aC (Pyr.e2 addD (eVar 8) (eN tupD (aC (Pyr.e2 atD (eVar 1) (eC (.int 0))) Pyr.a0))) (aC (eSlice (eVar 8) (oSome (eC (.int 1))) oNone) (aC (eN tupD Pyr.a0) Pyr.a0))))) (Pyr.e2 modD (eN (oneD int2D) (aC (Pyr.e2 atD (eVar 3) (eC (.int 2))) Pyr.a0)) (eC (.int ((3 : Nat) : Int))))) Pyr.a0))) (purE (sF S ws gs vs (.own (.lst (gs.map gfD))) (.val (.int ((1 : Nat) : Int))) (.val (.int (a : Int))) (.val (nmD g.n)) (.val (.tuple g.r)))) = .ok (gfD ⟨g.n, r⟩) := fun r hr =>
      tup_ok (xs := [nmD g.n, .tuple r]) (aC_ok (v7 _ rfl) (aC_ok ((e2_ok li ej).trans hr) (xs := []) (show Pyr.a0 _ = Res.ok [] from rfl))) (show 2 ≤ 100000 by decide)
    rcases (show j = 0 ∨ j = 1 ∨ j = 2 by omega) with rfl | rfl | rfl
    · exact ⟨_, fin _ _ (ifF (kt 0) (ifT (kt 1) (putz _ _ (go (g.r ++ [.str ws[0]]) (at_list (k := 0) rfl))))), setok _ ⟨fun d hd => by
        rcases List.mem_append.mp hd with hd | hd
        · exact gm.ce d hd
        · rw [List.mem_singleton.mp hd]
          exact ce_wd (hws _ (List.getElem_mem _)), by show (g.r ++ [PyData.str ws[0]]).length ≤ n + 1; rw [List.length_append]; show g.r.length + 1 ≤ n + 1; omega, gm.nm⟩⟩
    · exact ⟨_, fin _ _ (ifF (kt 0) (ifT (kt 1) (putz _ _ (go (g.r.drop 1) (at_list (k := 1) rfl))))), setok _ ⟨fun d hd => gm.ce d (List.mem_of_mem_drop hd), by show (g.r.drop 1).length ≤ n + 1; omega, gm.nm⟩⟩
    · exact ⟨_, fin _ _ (ifF (kt 0) (ifT (kt 1) (putz _ _ (go [] (at_list (k := 2) rfl))))), setok _ ⟨fun d hd => (nomatch hd), by show 0 ≤ n + 1; omega, gm.nm⟩⟩
  · obtain ⟨j, hj, ej⟩ := d2 5 (purE (sF S ws gs vs (.own (.lst (gs.map gfD))) (.val (.int ((2 : Nat) : Int))) (.val (.int (a : Int))) (.val (nmD g.n)) (.val (.tuple g.r)))) (by decide) rfl
    have li : (eL (lN (aC (eC (.str "")) (aC (eC (.str "B")) (aC (eC (.str "a b")) (aC (eC (.int 5)) (aC (eC .none) Pyr.a0))))))) (purE (sF S ws gs vs (.own (.lst (gs.map gfD))) (.val (.int ((2 : Nat) : Int))) (.val (.int (a : Int))) (.val (nmD g.n)) (.val (.tuple g.r)))) = .ok (.list [.str "", .str "B", .str "a b", .int 5, .none]) := rfl
    have go : ∀ (d : Pyr.D), atD (.list [.str "", .str "B", .str "a b", .int 5, .none]) (.int (j : Int)) = .ok d → (eN tupD (aC (eVar 7) (aC (Pyr.e2 addD (eSlice (eVar 8) (oSome (eC (.int 1))) oNone) (eN tupD (aC (Pyr.e2 atD (eL (lN (aC (eC (.str "")) (aC (eC (.str "B")) (aC (eC (.str "a b")) (aC (eC (.int 5)) (aC (eC .none) Pyr.a0))))))) (Pyr.e2 modD (eN (oneD int2D) (aC (Pyr.e2 atD (eVar 3) (eC (.int 2))) Pyr.a0)) (eC (.int ((5 : Nat) : Int))))) Pyr.a0))) Pyr.a0))) (purE (sF S ws gs vs (.own (.lst (gs.map gfD))) (.val (.int ((2 : Nat) : Int))) (.val (.int (a : Int))) (.val (nmD g.n)) (.val (.tuple g.r)))) = .ok (gfD ⟨g.n, g.r.drop 1 ++ [d]⟩) := fun d hd =>
      tup_ok (xs := [nmD g.n, .tuple (g.r.drop 1 ++ [d])]) (aC_ok (v7 _ rfl) (aC_ok ((e2_ok sl (tup_ok (xs := [d]) (aC_ok ((e2_ok li ej).trans hd) (xs := []) (show Pyr.a0 _ = Res.ok [] from rfl)) (show 1 ≤ 100000 by decide))).trans (add_tup (g.r.drop 1) [d] (by show (g.r.drop 1).length + 1 ≤ 100000; omega))) (xs := []) (show Pyr.a0 _ = Res.ok [] from rfl))) (show 2 ≤ 100000 by decide)
    have sk : ∀ d : Pyr.D, CeO d → GN (n + 1) ⟨g.n, g.r.drop 1 ++ [d]⟩ := fun d hc => ⟨fun c hcm => by
      rcases List.mem_append.mp hcm with h | h
      · exact gm.ce c (List.mem_of_mem_drop h)
      · rw [List.mem_singleton.mp h]; exact hc, by show (g.r.drop 1 ++ [d]).length ≤ n + 1; rw [List.length_append]; show (g.r.drop 1).length + 1 ≤ n + 1; omega, gm.nm⟩
    rcases (show j = 0 ∨ j = 1 ∨ j = 2 ∨ j = 3 ∨ j = 4 by omega) with rfl | rfl | rfl | rfl | rfl
    · exact ⟨_, fin _ _ (ifF (kt 0) (ifF (kt 1) (ifT (kt 2) (putz _ _ (go _ (at_list (k := 0) rfl)))))), setok _ (sk _ (.inl ⟨_, rfl, by decide +kernel, by decide +kernel⟩))⟩
    · exact ⟨_, fin _ _ (ifF (kt 0) (ifF (kt 1) (ifT (kt 2) (putz _ _ (go _ (at_list (k := 1) rfl)))))), setok _ (sk _ (.inl ⟨_, rfl, by decide +kernel, by decide +kernel⟩))⟩
    · exact ⟨_, fin _ _ (ifF (kt 0) (ifF (kt 1) (ifT (kt 2) (putz _ _ (go _ (at_list (k := 2) rfl)))))), setok _ (sk _ (.inl ⟨_, rfl, by decide +kernel, by decide +kernel⟩))⟩
    · exact ⟨_, fin _ _ (ifF (kt 0) (ifF (kt 1) (ifT (kt 2) (putz _ _ (go _ (at_list (k := 3) rfl)))))), setok _ (sk _ (.inr (.inl ⟨5, rfl, by decide⟩)))⟩
    · exact ⟨_, fin _ _ (ifF (kt 0) (ifF (kt 1) (ifT (kt 2) (putz _ _ (go _ (at_list (k := 4) rfl)))))), setok _ (sk _ (.inr (.inr rfl)))⟩
  · refine ⟨gs.take a ++ [g] ++ gs.drop a, fin _ _ (ifF (kt 0) (ifF (kt 1) (ifF (kt 2) (ifT (kt 3) ?_)))), fun x hx => ?_, by rw [ins_len]; omega⟩
    · rw [List.map_append, List.map_append, List.map_take, List.map_drop]
      exact insL_ok (d := gfD g) (k := a) rfl ((e2_ok (x := .list (gs.map gfD)) (y := .int (a : Int)) rfl rfl).trans ag) rfl (by omega) (by rw [lG]; omega)
    · rcases List.mem_append.mp hx with h | h
      · rcases List.mem_append.mp h with h | h
        · exact up x (List.mem_of_mem_take h)
        · rw [List.mem_singleton.mp h]; exact gm.up (by omega)
      · exact up x (List.mem_of_mem_drop h)
  · have hb : gs.length - 1 - a < gs.length := by omega
    refine ⟨gs.set a gs[gs.length - 1 - a], fin _ _ (ifF (kt 0) (ifF (kt 1) (ifF (kt 2) (ifF (kt 3) (putz _ _ ?_))))), setok _ (up _ (List.getElem_mem _))⟩
    have h1 : (Pyr.e2 subD (Pyr.e2 subD (eN (oneD lenD) (aC (eVar 2) Pyr.a0)) (eC (.int 1))) (eVar 6)) (purE (sF S ws gs vs (.own (.lst (gs.map gfD))) (.val (.int ((4 : Nat) : Int))) (.val (.int (a : Int))) (.val (nmD g.n)) (.val (.tuple g.r)))) = .ok (.int ((gs.length - 1 - a : Nat) : Int)) := by
      refine (e2_ok (x := .int ((gs.length : Int) - 1)) (y := .int (a : Int)) ((e2_ok (x := .int (gs.length : Int)) (y := .int 1) (hlen _ rfl) rfl).trans rfl) rfl).trans ?_
      show Res.ok (PyData.int ((gs.length : Int) - 1 - (a : Int))) = _
      congr 2
      omega
    exact (e2_ok (x := .list (gs.map gfD)) rfl h1).trans (at_list (by rw [List.getElem?_map, List.getElem?_eq_getElem hb]; rfl))
/-! ### told is what is due -/
structure Tame (d : Pyr.D) : Prop where
  f : fD 55 d = true
  b : noB d = true
theorem Tame.ok {d : Pyr.D} (h : Tame d) : okd d = true := fD_okd h.f (by decide)
theorem Tame.ne {d : Pyr.D} (h : Tame d) : neD d d = .ok (.bool false) := by
  unfold Pyr.neD
  rw [h.ok, (eqv_iff d d h.b h.b).mpr rfl]
  simp
theorem Tame.eq {d : Pyr.D} (h : Tame d) : eqD d d = .ok (.bool true) := by
  unfold Pyr.eqD
  rw [h.ok, (eqv_iff d d h.b h.b).mpr rfl]
  simp
theorem tame_ft {f : Ft} (h : FtOk f) : fD 54 (ftD f) = true := fD_up 50 54 _ (by omega) (ftE.fd f h)
theorem tame_oc (o : Oc) : Tame (.tuple [.str o.t]) := ⟨by cases o <;> kernel_rfl, rfl⟩
theorem ce_f {d : Pyr.D} (h : CeO d) (n : Nat) : fD n d = true ∧ noB d = true := by
  rcases h with ⟨x, rfl, _, hs⟩ | ⟨i, rfl, hi⟩ | rfl
  · exact ⟨by cases n <;> exact hs, rfl⟩
  · exact ⟨by cases n <;> exact decide_eq_true (by omega), rfl⟩
  · exact ⟨by cases n <;> rfl, rfl⟩
theorem gf_f {n m : Nat} {g : GF} (h : GN n g) : fD (m + 2) (gfD g) = true ∧ noB (gfD g) = true := by
  obtain ⟨x, r⟩ := g
  have hn : fD (m + 1) (nmD x) = true ∧ noB (nmD x) = true := by
    cases x with
    | none => exact ⟨rfl, rfl⟩
    | some x => exact ⟨letS_ok (h.nm x rfl).2, rfl⟩
  have hr : fDs m r = true := fDs_all fun d hd => (ce_f (h.ce d hd) m).1
  have hb : noBs r = true := noBs_all fun d hd => (ce_f (h.ce d hd) m).2
  constructor
  · show (fD (m + 1) (nmD x) && (fDs m r && true)) = true
    rw [hn.1, hr]
    rfl
  · show (noB (nmD x) && (noBs r && true)) = true
    rw [hn.2, hb]
    rfl
theorem tame_gs {n : Nat} {gs : List GF} (h : ∀ g ∈ gs, GN n g) : Tame (.list (gs.map gfD)) := ⟨by
  show fDs 54 (gs.map gfD) = true
  exact fDs_all fun d hd => by
    obtain ⟨g, hg, rfl⟩ := List.mem_map.mp hd
    exact (gf_f (m := 52) (h g hg)).1, by
  show noBs (gs.map gfD) = true
  exact noBs_all fun d hd => by
    obtain ⟨g, hg, rfl⟩ := List.mem_map.mp hd
    exact (gf_f (m := 52) (h g hg)).2⟩
theorem clL_mem {S : List Tb} : ∀ (fs pre : List Ft) (p : Ft × Ft), clL S pre fs = some p → p.1 ∈ pre ++ fs ∧ p.2 ∈ pre ++ fs
  | [], _, _, h => by cases h
  | f :: fs, pre, p, h => by
    have un : clL S pre (f :: fs) = match pre.find? (fun g => sameF S g f) with
      | some g => some (g, f)
      | none => clL S (pre ++ [f]) fs := rfl
    rw [un] at h
    cases e : pre.find? (fun g => sameF S g f) with
    | some g =>
      rw [e] at h
      cases h
      exact ⟨List.mem_append_left _ (List.mem_of_find?_eq_some e), List.mem_append_right _ List.mem_cons_self⟩
    | none =>
      rw [e] at h
      have := clL_mem fs (pre ++ [f]) p h
      rw [List.append_assoc] at this
      exact this
section
variable (S : List Tb) (hS : S.length ≤ 100) (hW : ∀ t ∈ S, Wd t.1) (nd : (S.map (·.1)).Nodup)
include hS hW
theorem tame_db (gs : List GF) : Tame (dbC S gs).t := by
  cases hd : dbC S gs with
  | ok => exact ⟨by kernel_rfl, rfl⟩
  | size => exact ⟨by kernel_rfl, rfl⟩
  | fact o => exact tame_oc o
  | key p =>
    unfold dbC at hd
    split at hd
    · cases hd
    · cases hu : due S none gs with
      | go =>
        rw [hu] at hd
        dsimp only at hd
        cases hc : clL S [] (gs.map gft) with
        | none => rw [hc] at hd; cases hd
        | some q =>
          rw [hc] at hd
          cases hd
          obtain ⟨_, k, _⟩ := due_go hW gs none hu
          obtain ⟨m1, m2⟩ := clL_mem _ _ _ hc
          have f1 := (k p.1 m1).1
          have f2 := (k p.2 m2).1
          have hk : fD 54 (.str "key") = true := by kernel_rfl
          constructor
          · show (fD 54 (.str "key") && (fD 54 (ftD p.1) && (fD 54 (ftD p.2) && true))) = true
            rw [hk, tame_ft f1, tame_ft f2]
            rfl
          · show (true && (noB (ftD p.1) && (noB (ftD p.2) && true))) = true
            rw [ftE.nb, ftE.nb]
            rfl
      | tab => rw [hu] at hd; cases hd
      | row => rw [hu] at hd; cases hd
      | ord => rw [hu] at hd; cases hd
theorem tame_ch (D : List Ft) (A B : List GF) : Tame (chC S D A B).t := by
  have one : ∀ (x : Str) (f : Ft), FtOk f → fD 54 (.str x) = true → Tame (.tuple [.str x, ftD f]) := fun x f h hx => ⟨by
    show (fD 54 (.str x) && (fD 54 (ftD f) && true)) = true
    rw [hx, tame_ft h]
    rfl, by
    show (true && (noB (ftD f) && true)) = true
    rw [ftE.nb]
    rfl⟩
  unfold chC
  cases hd : due S none A with
  | tab => exact tame_oc .tab
  | row => exact tame_oc .row
  | ord => exact tame_oc .ord
  | go =>
    cases hd2 : due S none B with
    | tab => exact tame_oc .tab
    | row => exact tame_oc .row
    | ord => exact tame_oc .ord
    | go =>
      obtain ⟨_, k1, _⟩ := due_go hW A none hd
      obtain ⟨_, k2, _⟩ := due_go hW B none hd2
      dsimp only
      cases qa : (A.map gft).find? (fun f => decide (f ∉ D)) with
      | some f => exact one _ f (k1 f (List.mem_of_find?_eq_some qa)).1 (by kernel_rfl)
      | none =>
        dsimp only
        cases qb : (B.map gft).find? (fun f => decide (f ∈ D)) with
        | some f => exact one _ f (k2 f (List.mem_of_find?_eq_some qb)).1 (by kernel_rfl)
        | none => exact ⟨by kernel_rfl, rfl⟩
include nd
theorem asked_run (gs : List GF) (n : Nat) (hn : n ≤ 40) (h : ∀ g ∈ gs, GN n g) (hl : gs.length ≤ 100) : m__law_asked [.list (S.map tbD), .list (gs.map gfD)] = .ok (.val (.bool true)) := by
  have ok : ∀ g ∈ gs, GOk g := fun g hg => (h g hg).ok (by omega)
  have a1 := told_facts S hS hW gs ok .none
  have a2 := told_database S hS hW gs ok hl .none
  have b1 := due_run S hS hW gs ok
  have b2 := database_due S hS hW nd gs ok hl
  have tm := tame_gs h
  have t1 := (tame_oc (due S none gs)).ne
  have t2 := (tame_db S hS hW gs).ne
  rw [u__law_asked, defM_eq (np := 2) rfl]
  show outR (F__law_asked [.val (.list (S.map tbD)), .val (.list (gs.map gfD)), .emp, .emp, .emp]) = _
  unfold F__law_asked
  refine seqO (ρ' := [.val (.list (S.map tbD)), .val (.list (gs.map gfD)), .val (.list (gs.map gfD)), .emp, .emp]) rfl ?_
  unfold T__law_asked_1
  refine seqO (ρ' := [.val (.list (S.map tbD)), .val (.list (gs.map gfD)), .val (.list (gs.map gfD)), .val (.tuple [.str (due S none gs).t]), .emp]) (set_ok (call_ok (xs := [.int 0, .list (S.map tbD), .list (gs.map gfD), .none]) rfl a1)) ?_
  unfold T__law_asked_2
  refine seqO (ρ' := [.val (.list (S.map tbD)), .val (.list (gs.map gfD)), .val (.list (gs.map gfD)), .val (.tuple [.str (due S none gs).t]), .val (dbC S gs).t]) (set_ok (call_ok (xs := [.int 1, .list (S.map tbD), .list (gs.map gfD), .none]) rfl a2)) ?_
  unfold T__law_asked_3
  have lo : isLo (dbC S gs).t = false := by cases dbC S gs <;> rfl
  have v4 : eVar 4 (frzE [.val (.list (S.map tbD)), .val (.list (gs.map gfD)), .val (.list (gs.map gfD)), .val (.tuple [.str (due S none gs).t]), .val (dbC S gs).t]) = .ok (dbC S gs).t := by
    show (if isLo (dbC S gs).t then Res.bad else .ok (dbC S gs).t) = _
    rw [lo]
    rfl
  have t : (tOrR (tE boolD (Pyr.e2 neD (eVar 3) (eCall m__law_facts_due (aC (eVar 0) (aC (eVar 1) Pyr.a0))))) (tE boolD (Pyr.e2 neD (eVar 4) (eCall m__law_database_due (aC (eVar 0) (aC (eVar 1) Pyr.a0)))))) (frzE [.val (.list (S.map tbD)), .val (.list (gs.map gfD)), .val (.list (gs.map gfD)), .val (.tuple [.str (due S none gs).t]), .val (dbC S gs).t]) = .ok false := by
    refine or_ok (a := false) (b := false) ?_ fun _ => ?_
    · exact (tE_ok ((e2_ok (x := .tuple [.str (due S none gs).t]) rfl (call_ok (xs := [.list (S.map tbD), .list (gs.map gfD)]) rfl b1)).trans t1)).trans rfl
    · exact (tE_ok ((e2_ok v4 (call_ok (xs := [.list (S.map tbD), .list (gs.map gfD)]) rfl b2)).trans t2)).trans rfl
  refine seqO (Eq.trans (if_ok t) rfl) ?_
  unfold T__law_asked_4
  refine (congrArg outR (ret_ok (d := .bool true) ((e2_ok (x := .list (gs.map gfD)) (y := .list (gs.map gfD)) rfl rfl).trans tm.eq))).trans rfl
end
theorem pool_run4 (a b : Int) (m : Nat) (hm : m ≤ 36) (ha : 0 ≤ a ∧ a < 1000) (hb : 0 ≤ b ∧ b < 2000) :
    ∃ ws : List Str, m__law_pool [.int a, .int b, .int (m : Int)] = .ok (.own (ws.map .str)) ∧ ws.length = m ∧ (∀ w ∈ ws, Wd w) ∧ ws.Nodup ∧ ∃ n, (a = 0 → n = 1) ∧ ∀ w ∈ ws, w.length = n := by
  -- the size
  obtain ⟨s, hs, hs0, es⟩ : ∃ s : Nat, s ≤ 11 ∧ (a = 0 → s = 0) ∧ T__law_pool_1 [.val (.int a), .val (.int b), .val (.int (m : Int)), .val (.str lets), .emp, .emp, .emp, .emp, .emp] = T__law_pool_3 [.val (.int a), .val (.int b), .val (.int (m : Int)), .val (.str lets), .val (.int (s : Int)), .emp, .emp, .emp, .emp] := by
    obtain ⟨j, ej, hj⟩ := fmod_nat a (m := 4) (by decide)
    have ej : a.fmod 4 = (j : Int) := ej
    by_cases h9 : a.fmod 9 = 8
    · refine ⟨11, Nat.le_refl _, fun h => absurd h9 (by rw [h]; decide), ?_⟩
      unfold T__law_pool_1 T__law_pool_2
      dsimp! [eL, ej, h9]
    · refine ⟨j, by omega, fun h => by rw [h] at ej; have : (0 : Int).fmod 4 = 0 := rfl; omega, ?_⟩
      unfold T__law_pool_1 T__law_pool_2
      dsimp! [eL, ej, h9]
  -- the text
  have hr : r1D (.int (s : Int)) = .ok ((List.range' 0 s).map fun k : Nat => .int (k : Int)) := (r1D_nat (by show _ ≤ 100000; omega)).trans (congrArg Res.ok (upto_map s 0))
  generalize hT : (List.range' 0 s).map (fun k : Nat => lc ((a + 7 * (k : Int) * (1 + b.fmod 3)).fmod 36).toNat) = T
  have lT : T.length = s := by rw [← hT, List.length_map, List.length_range']
  have inT : ∀ c ∈ T, c ∈ lets.cps.toList := fun c hc => by
    rw [← hT] at hc
    obtain ⟨k, _, rfl⟩ := List.mem_map.mp hc
    obtain ⟨j, e, h, _⟩ := let_at (a + 7 * (k : Int) * (1 + b.fmod 3))
    rw [e]
    exact lc_in h
  -- the place, the step
  obtain ⟨p, ep, hp⟩ := fmod_nat b (m := s + 1) (by omega)
  obtain ⟨q, eq, hq⟩ : ∃ q : Nat, 1 + 4 * (b.fdiv 4).fmod 2 = (q : Int) ∧ (q = 1 ∨ q = 5) := by
    have := fmod_in (b.fdiv 4) (m := 2) (by decide)
    exact ⟨(1 + 4 * (b.fdiv 4).fmod 2).toNat, by omega, by omega⟩
  generalize hW : (List.range' 0 m).map (fun k : Nat => ofL (T.take p ++ [lc ((b + q * (k : Int)).fmod 36).toNat] ++ T.drop p)) = ws
  have lW : ws.length = m := by rw [← hW, List.length_map, List.length_range']
  refine ⟨ws, ?_, lW, fun w hw => ?_, ?_, s + 1, fun h => by rw [hs0 h], fun w hw => ?_⟩
  · rw [u__law_pool]
    rw [defM_eq (np := 3) rfl]
    show outR (F__law_pool [.val (.int a), .val (.int b), .val (.int (m : Int)), .emp, .emp, .emp, .emp, .emp, .emp]) = _
    unfold F__law_pool
    rw [seq_ok (set_ok (d := .str lets) rfl)]
    show outR (T__law_pool_1 [.val (.int a), .val (.int b), .val (.int (m : Int)), .val (.str lets), .emp, .emp, .emp, .emp, .emp]) = _
    have es : T__law_pool_1 [.val (.int a), .val (.int b), .val (.int (m : Int)), .val (.str lets), .emp, .emp, .emp, .emp, .emp] = _ := es
    rw [es]
    unfold T__law_pool_3
    rw [seq_ok (set_ok (d := .str (ofL T)) ?_)]
    · unfold T__law_pool_4
      rw [seq_ok (ρ' := [.val (.int a), .val (.int b), .val (.int (m : Int)), .val (.str lets), .val (.int (s : Int)), .val (.str (ofL T)), .val (.int (p : Int)), .emp, .emp]) (by
        have ep : b.fmod ((s : Int) + 1) = (p : Int) := ep
        dsimp! [eL, ep])]
      unfold T__law_pool_5
      rw [seq_ok (ρ' := [.val (.int a), .val (.int b), .val (.int (m : Int)), .val (.str lets), .val (.int (s : Int)), .val (.str (ofL T)), .val (.int (p : Int)), .val (.int (q : Int)), .emp]) (by dsimp! [eL, eq])]
      unfold T__law_pool_6
      have hr2 : r1D (.int (m : Int)) = .ok ((List.range' 0 m).map fun k : Nat => .int (k : Int)) := (r1D_nat (by show _ ≤ 100000; omega)).trans (congrArg Res.ok (upto_map m 0))
      rw [retL_ok (ds := ws.map .str)]
      · rfl
      · refine lComp_ok ((iF_ok (x := .int (m : Int)) rfl).trans hr2) (by rw [List.length_map, List.length_range']; omega) ?_
        rw [← hW, List.map_map]
        refine compF_en _ _ _ fun k hk => ⟨_, rfl, rfl, ?_⟩
        obtain ⟨j, e, h, at'⟩ := let_at (b + q * (k : Int))
        have hk := (List.mem_range'_1.mp hk).2
        rw [e] at at'
        have l1 : (ofL T).length = s := by rw [ofL_len, lT]
        have l2 : (cutS (ofL T) none (some (p : Int))).length ≤ 11 := by rw [tl_len, Com2.cut_front, ofL_tl, List.length_take]; omega
        have l3 : (cutS (ofL T) (some (p : Int)) none).length ≤ 11 := by rw [tl_len, Com2.cut_back, ofL_tl, List.length_drop]; omega
        have l4 : (ofL [lc j]).length = 1 := rfl
        have sl : ∀ lo hi, sliceD (.str (ofL T)) lo hi = .ok (.str (cutS (ofL T) lo hi)) := fun lo hi => okL_ok (by rw [l1]; show _ ≤ 100000; omega)
        have ee : cutS (ofL T) none (some (p : Int)) ++ ofL [lc j] ++ cutS (ofL T) (some (p : Int)) none = ofL (T.take p ++ [lc j] ++ T.drop p) := str_eq (by
          have a1 : ∀ x y : Str, (x ++ y).cps.toList = x.cps.toList ++ y.cps.toList := fun x y => TL.tl_append x y
          rw [a1, a1, Com2.cut_front, Com2.cut_back, ofL_tl, ofL_tl, ofL_tl])
        simp -implicitDefEqProofs (disch := first | omega | (simp only [Pyr.app_len]; omega)) only [Pyr.run_nx, Pyr.run_dt, Pyr.run_fSu, Pyr.run_pSu, Pyr.run_flI, Pyr.run_flB, Pyr.run_flS, Pyr.run_flN, Pyr.sSeq, Pyr.sKill, Pyr.run_kill0, Pyr.run_killS, Pyr.sIf, Pyr.sSet, Pyr.sSetL, Pyr.sRet, Pyr.sRetL, Pyr.sRetN, Pyr.sRetO, Pyr.sDrop, Pyr.sApp, Pyr.sNext, Pyr.sFrz, Pyr.sSetT, Pyr.tgF, Pyr.setsF, Pyr.evP, Pyr.evL, Pyr.evT, Pyr.bare, Pyr.eC, Pyr.e1, Pyr.e2, Pyr.eN, Pyr.aC, Pyr.a0, Pyr.eIf, Pyr.eAnd, Pyr.eOr, Pyr.eNot, Pyr.eChain, Pyr.tE, Pyr.tNotR, Pyr.tAndR, Pyr.tOrR, Pyr.eCall, Pyr.lCall, Pyr.iF, Pyr.iF2, Pyr.lN, Pyr.lF, Pyr.eFs, Pyr.jC, Pyr.j0, Pyr.eIxV, Pyr.ownI, Pyr.lAdd, Pyr.sExt, Pyr.sPop, Pyr.trF, Pyr.trsF, Trs.len, Pyr.run_max2, Pyr.run_min2, Pyr.backD, Pyr.eSlice, Pyr.oNone, Pyr.oSome, Pyr.optI, Pyr.lSlice, Pyr.listD, eL, Pyr.eB, Pyr.oneD, Pyr.oneL, Pyr.itemsD, Pyr.outR, Pyr.ownD, Pyr.RV.d, Pyr.tupD, Pyr.run_mul, Pyr.run_mulS, Pyr.run_add, Pyr.run_sub, Pyr.run_addS, Pyr.run_mod, Pyr.run_fdiv, Pyr.run_lt, Pyr.run_le, Pyr.run_gt, Pyr.run_ge, Pyr.run_lenL, Pyr.run_lenT, Pyr.run_lenS, Pyr.run_int, Pyr.run_bool, Pyr.run_truB, Pyr.run_truL, Pyr.run_pur1, Pyr.run_frz1, Pyr.run_pSv, Pyr.run_pSo, Pyr.run_pSe, Pyr.run_fSv, Pyr.run_fSo, Pyr.run_fSe, Pyr.run_pur0, Pyr.run_frz0, Pyr.run_v0n, Pyr.run_v0b, Pyr.run_v0i, Pyr.run_v0s, Pyr.run_v0l, Pyr.run_v0t, Pyr.run_v0o, Pyr.run_vN, Pyr.run_vS, Pyr.run_bad, Pyr.run_exc, Pyr.run_map, Pyr.run_okL, List.length_cons, List.length_nil, Pyr.bind_ok, List.set_cons_zero, List.set_cons_succ, List.getElem?_cons_zero, List.getElem?_cons_succ, Pyr.eqD_int, Pyr.eqD_str, Pyr.neD_int, Pyr.neD_str, if_true, if_false, Bool.not_true, Bool.not_false, Bool.false_eq_true, decide_true, decide_false, Pyr.run_atT0, Pyr.run_atT1, Pyr.run_atT2, Pyr.run_atT3, Pyr.run_atT4, Pyr.run_atL0, Pyr.run_atL1, Pyr.run_atL2, Pyr.run_atL3, Pyr.run_atL4, Pyr.isi_str_n, Pyr.isi_str_b, Pyr.isi_str_i, Pyr.isi_str_s, Pyr.isi_str_l, Pyr.isi_str_t, Pyr.isi_str_d, Pyr.isi_int_n, Pyr.isi_int_b, Pyr.isi_int_i, Pyr.isi_int_s, Pyr.isi_int_l, Pyr.isi_int_t, Pyr.isi_int_d, Pyr.isi_bool_n, Pyr.isi_bool_b, Pyr.isi_bool_i, Pyr.isi_bool_s, Pyr.isi_bool_l, Pyr.isi_bool_t, Pyr.isi_bool_d, Pyr.isi_list_n, Pyr.isi_list_b, Pyr.isi_list_i, Pyr.isi_list_s, Pyr.isi_list_l, Pyr.isi_list_t, Pyr.isi_list_d, Pyr.isi_tuple_n, Pyr.isi_tuple_b, Pyr.isi_tuple_i, Pyr.isi_tuple_s, Pyr.isi_tuple_l, Pyr.isi_tuple_t, Pyr.isi_tuple_d, Pyr.isi_dict_n, Pyr.isi_dict_b, Pyr.isi_dict_i, Pyr.isi_dict_s, Pyr.isi_dict_l, Pyr.isi_dict_t, Pyr.isi_dict_d, Nat.reduceAdd, Int.cast_ofNat_Int, Int.natCast_zero, Int.natCast_one, Int.reduceEq, Int.reduceLT, Int.reduceLE, Int.reduceAdd, Int.reduceSub, Int.reduceMul, Int.reduceNeg, Int.reduceNe, Nat.zero_add, reduceIte, decide_eq_true_eq, beq_self_eq_true, eq_self, Bool.true_or, Bool.or_true, Bool.and_true, Bool.true_and, Bool.false_or, Bool.or_false, Bool.and_false, Bool.false_and, e, at', wipeE, tgE, sl, optI, l2, l3, l4, ee, Int.toNat_natCast, Function.comp]
    · refine eJoin_ok rfl (mapL_ok (lComp_ok ((iF_ok (x := .int (s : Int)) rfl).trans hr) (by rw [List.length_map, List.length_range']; omega) (compF_en _ (fun k : Nat => .str (ofL [lc ((a + 7 * (k : Int) * (1 + b.fmod 3)).fmod 36).toNat])) _ fun k hk => ⟨_, rfl, rfl, ?_⟩))) ?_
      · obtain ⟨j, e, h, q⟩ := let_at (a + 7 * (k : Int) * (1 + b.fmod 3))
        have hk := (List.mem_range'_1.mp hk).2
        have b3 := fmod_in b (m := 3) (by decide)
        rw [e] at q ⊢
        dsimp! [eL, e, q, wipeE, tgE, Int.toNat_natCast]
      · have : joinD ("" : Str) (.list (T.map fun c => .str (ofL [c]))) = .ok (.str (ofL T)) := joinD_chars T (by omega)
        rw [← hT, List.map_map] at this
        rw [← hT]
        exact this
  · rw [← hW] at hw
    obtain ⟨k, _, rfl⟩ := List.mem_map.mp hw
    obtain ⟨j, e, h, _⟩ := let_at (b + q * (k : Int))
    rw [e, Int.toNat_natCast]
    refine ⟨?_, ?_, fun c hc => ?_⟩
    · rw [ofL_len, List.length_append, List.length_append]
      simp only [List.length_cons, List.length_nil]
      omega
    · rw [ofL_len, List.length_append, List.length_append, List.length_take, List.length_drop]
      simp only [List.length_cons, List.length_nil]
      omega
    · rw [ofL_tl] at hc
      rcases List.mem_append.mp hc with hc | hc
      · rcases List.mem_append.mp hc with hc | hc
        · exact inT c (List.mem_of_mem_take hc)
        · rw [List.mem_singleton.mp hc]
          exact lc_in h
      · exact inT c (List.mem_of_mem_drop hc)
  · rw [← hW]
    refine List.Pairwise.map _ (fun i k (hik : i < k ∧ k < 36) z => ?_) (R := fun i k : Nat => i < k ∧ k < 36) ?_
    · have z := congrArg (fun x : Str => x.cps.toList) z
      simp only [ofL_tl, List.append_assoc] at z
      have z := List.append_cancel_left z
      obtain ⟨ji, ei, hi, _⟩ := let_at (b + q * (i : Int))
      obtain ⟨jk, ek, hk, _⟩ := let_at (b + q * (k : Int))
      rw [ei, ek, Int.toNat_natCast, Int.toNat_natCast] at z
      have := lc_inj hi hk (List.cons.inj (show lc ji :: _ = lc jk :: _ from z)).1
      subst this
      have d1 := Int.fmod_add_mul_fdiv (b + q * (i : Int)) 36
      have d2 := Int.fmod_add_mul_fdiv (b + q * (k : Int)) 36
      generalize (b + q * (i : Int)).fdiv 36 = u at d1
      generalize (b + q * (k : Int)).fdiv 36 = v at d2
      rcases hq with rfl | rfl <;> omega
    · refine List.Pairwise.imp_of_mem (fun {i k} hi hk h => ⟨h, by have := (List.mem_range'_1.mp hk).2; omega⟩) List.pairwise_lt_range'
  · rw [← hW] at hw
    obtain ⟨k, _, rfl⟩ := List.mem_map.mp hw
    rw [ofL_len, List.length_append, List.length_append, List.length_take, List.length_drop]
    simp only [List.length_cons, List.length_nil]
    omega
theorem pool25 (b : Int) (hb : 0 ≤ b ∧ b < 1000) : ∃ cs : List Nat, cs.Nodup ∧ cs.length = 25 ∧ (∀ c ∈ cs, c ∈ lets.cps.toList) ∧ m__law_pool [.int 0, .int b, .int 25] = .ok (.own (cs.map fun c => .str ⟨#[c]⟩)) := by
  obtain ⟨ws, e, l, hw, nd, n, hn, hl⟩ := pool_run4 0 b 25 (by decide) ⟨by decide, by decide⟩ ⟨hb.1, by omega⟩
  have hn := hn rfl
  subst hn
  have one : ∀ w ∈ ws, w = ⟨#[w.cps.toList.getD 0 0]⟩ ∧ w.cps.toList.getD 0 0 ∈ lets.cps.toList := fun w h => by
    have h1 := hl w h
    have h2 := (hw w h).2.2
    rw [tl_len] at h1
    obtain ⟨c, hc⟩ := List.length_eq_one_iff.mp h1
    rw [hc]
    refine ⟨?_, h2 c (by rw [hc]; exact List.mem_singleton.mpr rfl)⟩
    refine TL.ext_tl ?_
    show w.cps.toList = [c]
    exact hc
  have eq : (ws.map fun w => w.cps.toList.getD 0 0).map (fun c => PyData.str ⟨#[c]⟩) = ws.map .str := by
    rw [List.map_map]
    exact List.map_congr_left fun w h => congrArg PyData.str (one w h).1.symm
  refine ⟨ws.map fun w => w.cps.toList.getD 0 0, ?_, by rw [List.length_map, l], fun c hc => ?_, by rw [eq]; exact e⟩
  · refine List.pairwise_map.mpr (List.Pairwise.imp_of_mem (fun {x y} hx hy ne h => ne ?_) nd)
    rw [(one x hx).1, (one y hy).1]
    exact congrArg (fun c : Nat => (⟨#[c]⟩ : Str)) h
  · obtain ⟨w, h, rfl⟩ := List.mem_map.mp hc
    exact (one w h).2
def oneS (c : Nat) : Str := ⟨#[c]⟩
def twoS (c : Nat) : Str := oneS c ++ "x"
theorem le_one : ∀ a ∈ lets.cps.toList, ∀ b ∈ lets.cps.toList, PySem.W.dataLe false id (PyData.str (oneS a)) (.str (oneS b)) = decide (a ≤ b) := by decide +kernel
theorem lt_two : ∀ a ∈ lets.cps.toList, ∀ b ∈ lets.cps.toList, a < b → dlt (prD (0, [twoS a])) (prD (0, [twoS b])) = true := by decide +kernel
theorem wd_two : ∀ c ∈ lets.cps.toList, wdB (.str (twoS c)) = true := by decide +kernel
theorem sorted25 {cs : List Nat} (nd : cs.Nodup) (l : cs.length = 25) (h : ∀ c ∈ cs, c ∈ lets.cps.toList) : ∃ ds : List Nat, sortL (.list (cs.map fun c => .str (oneS c))) = .ok (ds.map fun c => .str (oneS c)) ∧ ds.length = 25 ∧ (∀ c ∈ ds, c ∈ lets.cps.toList) ∧ ds.Pairwise (· < ·) := by
  have pm := List.mergeSort_perm cs (fun a b => decide (a ≤ b))
  have hs : (cs.map fun c => PyData.str (oneS c)).mergeSort (PySem.W.dataLe false id) = (cs.mergeSort fun a b => decide (a ≤ b)).map fun c => .str (oneS c) := (List.map_mergeSort (r := fun a b : Nat => decide (a ≤ b)) (s := PySem.W.dataLe false id) (f := fun c => PyData.str (oneS c)) fun a ha b hb => (le_one a (h a ha) b (h b hb)).symm).symm
  have sc : sortC (cs.map fun c => .str (oneS c)) = true := by
    unfold sortC
    have a1 : alikeB (cs.map fun c => PyData.str (oneS c)) = true := by
      unfold alikeB
      exact List.all_eq_true.mpr fun d hd => List.all_eq_true.mpr fun e he => by
        obtain ⟨a, ha, rfl⟩ := List.mem_map.mp hd
        obtain ⟨b, hb, rfl⟩ := List.mem_map.mp he
        rfl
    have a2 : sortableB (cs.map fun c => PyData.str (oneS c)) = true := by
      unfold sortableB
      rw [Bool.or_eq_true]
      refine .inr (List.all_eq_true.mpr fun d hd => ?_)
      obtain ⟨a, ha, rfl⟩ := List.mem_map.mp hd
      rfl
    have a3 : ((cs.map fun c => PyData.str (oneS c)).all fun d => flatD d && decide (d.depth ≤ 12)) = true := List.all_eq_true.mpr fun d hd => by
      obtain ⟨a, ha, rfl⟩ := List.mem_map.mp hd
      rfl
    rw [a1, a2, a3, List.length_map, l]
    rfl
  refine ⟨cs.mergeSort fun a b => decide (a ≤ b), (sortL_ok sc).trans (congrArg Res.ok hs), by rw [pm.length_eq, l], fun c hc => h c (pm.mem_iff.mp hc), ?_⟩
  have srt := List.pairwise_mergeSort (le := fun a b : Nat => decide (a ≤ b)) (fun a b c h1 h2 => by simp only [decide_eq_true_eq] at *; omega) (fun a b => by simp only [Bool.or_eq_true, decide_eq_true_eq]; omega) cs
  have nd2 : (cs.mergeSort fun a b => decide (a ≤ b)).Nodup := pm.nodup_iff.mpr nd
  refine (List.Pairwise.and srt nd2).imp fun {a b} ⟨h1, h2⟩ => ?_
  simp only [decide_eq_true_eq] at h1
  omega
/-! ### the single table -/
def S1 (x : Str) : List Tb := [(x, 1, none)]
def gx (x : Str) (c : Nat) : GF := ⟨some x, [.str (twoS c)]⟩
theorem plc1 (x : Str) : plc (S1 x) x = some 0 := by
  unfold plc S1
  simp
theorem ky1 (x : Str) (f : Ft) : kyF (S1 x) f = none := by
  unfold kyF S1
  by_cases h : x = f.1 <;> simp [h]
theorem key1 (x : Str) (r : List Str) : keyP (S1 x) (x, r) = (0, r) := by
  unfold keyP
  rw [plc1]
  rfl
theorem gft1 (x : Str) (c : Nat) : gft (gx x c) = (x, [twoS c]) := rfl
theorem clL1 (x : Str) : ∀ (fs pre : List Ft), clL (S1 x) pre fs = none
  | [], _ => rfl
  | f :: fs, pre => by
    have un : clL (S1 x) pre (f :: fs) = match pre.find? (fun g => sameF (S1 x) g f) with
      | some g => some (g, f)
      | none => clL (S1 x) (pre ++ [f]) fs := rfl
    have e : pre.find? (fun g => sameF (S1 x) g f) = none := List.find?_eq_none.mpr fun g _ h => by
      unfold sameF at h
      rw [ky1] at h
      simp at h
    rw [un, e]
    exact clL1 x fs (pre ++ [f])
theorem due1 (x : Str) : ∀ (ds : List Nat) (p : Option Ft), (∀ c ∈ ds, c ∈ lets.cps.toList) → ds.Pairwise (· < ·) → (p = none ∨ ∃ c0, p = some (x, [twoS c0]) ∧ c0 ∈ lets.cps.toList ∧ ∀ c ∈ ds, c0 < c) → due (S1 x) p (ds.map (gx x)) = .go
  | [], _, _, _, _ => rfl
  | c :: ds, p, h, hp, hq => by
    have hc := h c List.mem_cons_self
    have o : oc (S1 x) p (gx x c) = .go := by
      unfold oc
      have e1 : plcO (S1 x) (gx x c).n = some 0 := plc1 x
      rw [e1]
      have e2 : rowB (((S1 x).getD 0 ("", 0, none)).2.1) (gx x c).r = true := by
        show (decide (1 = 1) && ([PyData.str (twoS c)].all wdB)) = true
        rw [List.all_cons, wd_two c hc]
        rfl
      have e3 : ascB (S1 x) p (gft (gx x c)) = true := by
        rcases hq with rfl | ⟨c0, rfl, h0, hlt⟩
        · rfl
        · show PySem.W.dataLt (prD (keyP (S1 x) (x, [twoS c0]))) (prD (keyP (S1 x) (x, [twoS c]))) = true
          rw [key1, key1]
          exact lt_two c0 h0 c hc (hlt c List.mem_cons_self)
      dsimp only
      rw [e2, e3]
      rfl
    have un : due (S1 x) p (gx x c :: ds.map (gx x)) = match oc (S1 x) p (gx x c) with
      | .go => due (S1 x) (some (gft (gx x c))) (ds.map (gx x))
      | o => o := rfl
    rw [List.map_cons, un, o]
    exact due1 x ds _ (fun z hz => h z (List.mem_cons_of_mem _ hz)) (List.pairwise_cons.mp hp).2 (.inr ⟨c, gft1 x c ▸ rfl, hc, (List.pairwise_cons.mp hp).1⟩)
theorem db1_good (x : Str) (ds : List Nat) (hl : ds.length ≤ 24) (h : ∀ c ∈ ds, c ∈ lets.cps.toList) (hp : ds.Pairwise (· < ·)) : dbC (S1 x) (ds.map (gx x)) = .ok := by
  unfold dbC
  rw [if_neg (by rw [List.length_map]; omega), due1 x ds none h hp (.inl rfl)]
  dsimp only
  rw [clL1]
theorem db_size (S : List Tb) (gs : List GF) (h : 24 < gs.length) : dbC S gs = .size := by
  unfold dbC
  rw [if_pos h]
theorem gx_ok {x : Str} {c : Nat} (hc : c ∈ lets.cps.toList) : GOk (gx x c) := ⟨fun d hd => by
  rw [List.mem_singleton.mp hd]
  exact ce_wd (wd_of (wd_two c hc)), by show 1 ≤ 50; decide⟩
/-! ### ordinary facts as facts of any kind -/
def toG (f : Ft) : GF := ⟨some f.1, f.2.map .str⟩
theorem toG_D (f : Ft) : gfD (toG f) = ftD f := rfl
theorem toG_map (D : List Ft) : (D.map toG).map gfD = D.map ftD := by
  rw [List.map_map]
  rfl
theorem toG_ok {n : Nat} {f : Ft} (h : FtOk f) (hl : f.2.length ≤ n) : GN n (toG f) := ⟨fun d hd => by
  obtain ⟨w, hw, rfl⟩ := List.mem_map.mp hd
  exact ce_wd (h.2 w hw), by show (f.2.map PyData.str).length ≤ n; rw [List.length_map]; exact hl, fun x hx => by
  cases hx
  exact ⟨by have := h.1.2.1; omega, h.1.2.2⟩⟩
theorem fin_ok {S : List Tb} {ws : List Str} (hW : ∀ t ∈ S, Wd t.1) (hws : ∀ w ∈ ws, Wd w) (h4 : ∀ t ∈ S, t.2.1 ≤ 4) {f : Ft} (h : FtIn S ws f) : GN 4 (toG f) := by
  have k := ft_ok hW hws h
  obtain ⟨⟨t, ht, _, e⟩, _⟩ := h
  exact toG_ok k.1 (by rw [e]; exact h4 t ht)
/-! ### the law -/
theorem cut_ok (vs : List Int) (a b : Nat) (x y : Int) (hx : x = (a : Int)) (hy : y = (b : Int)) (h : a ≤ b) (hb : b ≤ vs.length) : sliceD (.list (vs.map .int)) (some x) (some y) = .ok (.list (((vs.drop a).take (b - a)).map .int)) := by
  subst hx hy
  exact congrArg (fun z => Res.ok (PyData.list z)) (cut_map vs a b h hb)
theorem cut_len {vs : List Int} {a b : Nat} (h : a ≤ b) (hb : b ≤ vs.length) : ((vs.drop a).take (b - a)).length = b - a := by rw [List.length_take, List.length_drop]; omega
abbrev lf (vs : List Int) (p w : List Str) (S : List Tb) (s0 s5 s6 s7 s8 s9 s10 s11 s12 : Sl) : Frm := [s0, .val (.list (vs.map .int)), .val (.list (p.map .str)), .val (.list (w.map .str)), .val (.list (S.map tbD)), s5, s6, s7, s8, s9, s10, s11, s12, .emp, .emp]
structure Wl (p w : List Str) (S : List Tb) : Prop where
  pl : p.length = 4
  pw : ∀ x ∈ p, Wd x
  wl : w.length = 3
  ww : ∀ x ∈ w, Wd x
  sw : ∀ t ∈ S, Wd t.1
  s1 : 1 ≤ S.length
  s4 : S.length ≤ 4
  sd : ∀ t ∈ S, 1 ≤ t.2.1 ∧ t.2.1 ≤ 4
  nd : (S.map (·.1)).Nodup
theorem at1 {vs : List Int} {ρ : En} (k : Nat) (hk : k < vs.length) (hv : eVar 1 ρ = .ok (.list (vs.map .int))) : (Pyr.e2 atD (eVar 1) (eC (.int (k : Int)))) ρ = .ok (.int vs[k]) := (e2_ok hv (y := .int (k : Int)) rfl).trans (int_at hk)
theorem sl1 {vs : List Int} {ρ : En} (a b : Nat) (ha : a ≤ b) (hb : b ≤ vs.length) (hv : eVar 1 ρ = .ok (.list (vs.map .int))) : (eSlice (eVar 1) (oSome (eC (.int (a : Int)))) (oSome (eC (.int (b : Int))))) ρ = .ok (.list (((vs.drop a).take (b - a)).map .int)) := by
  show ((eVar 1 ρ).bind fun x => (Res.ok (some (a : Int))).bind fun lo => (Res.ok (some (b : Int))).bind fun hi => sliceD x lo hi) = _
  rw [hv]
  exact cut_ok vs a b a b rfl rfl ha hb
theorem dm {vs : List Int} (i m : Nat) (hi : i < vs.length) (hm : 1 ≤ m) : ∃ n : Nat, n < m ∧ ∀ ρ : En, eVar 1 ρ = .ok (.list (vs.map .int)) → (Pyr.e2 modD (eN (oneD int2D) (aC (Pyr.e2 atD (eVar 1) (eC (.int (i : Int)))) Pyr.a0)) (eC (.int (m : Int)))) ρ = .ok (.int (n : Int)) := by
  obtain ⟨n, en, hn⟩ := fmod_nat vs[i] (m := m) hm
  exact ⟨n, hn, fun ρ hv => mod_ok (at1 i hi hv) ((modD_int (by omega)).trans (by rw [en]))⟩
theorem start_run (ns : List Int) (h : ns.length ≤ 63) : ∃ (vs : List Int) (p w : List Str) (S : List Tb), vs.length = 130 ∧ (∀ (i : Nat) (hi : i < vs.length), 0 ≤ vs[i] ∧ vs[i] < 1000) ∧ Wl p w S ∧
    m_law [scriptD ns] = outR (T_law_5 (lf vs p w S (.val (.list (ns.map .int))) .emp .emp .emp .emp .emp .emp .emp .emp)) := by
  obtain ⟨vs, e0, lv, dv⟩ := draws_run ns 130 h (by omega)
  have e0 : K03.m__law_draws [.list (ns.map .int), .int 130] = .ok (.own (vs.map .int)) := e0
  have dn : ∀ (i : Nat) (hi : i < vs.length), 0 ≤ vs[i] ∧ vs[i] < 1000 := fun i hi => dv _ (List.getElem_mem _)
  obtain ⟨p0, e1, lp, pw, pn⟩ := pool_run vs[0] vs[1] 4 (by omega) (dn 0 (by omega)) (dn 1 (by omega))
  have e1 : K03.m__law_pool [.int vs[0], .int vs[1], .int 4] = .ok (.own (p0.map .str)) := e1
  obtain ⟨w, e3, lw, ww, wn⟩ := pool_run vs[2] vs[3] 3 (by omega) (dn 2 (by omega)) (dn 3 (by omega))
  have e3 : K03.m__law_pool [.int vs[2], .int vs[3], .int 3] = .ok (.own (w.map .str)) := e3
  obtain ⟨j, hj, ej⟩ := dm 110 2 (show 110 < vs.length by omega) (by decide)
  obtain ⟨p, lp, pw, pn, hp⟩ : ∃ p : List Str, p.length = 4 ∧ (∀ x ∈ p, Wd x) ∧ p.Nodup ∧ sIf (tE boolD (Pyr.e2 eqD (Pyr.e2 modD (eN (oneD int2D) (aC (Pyr.e2 atD (eVar 1) (eC (.int 110))) Pyr.a0)) (eC (.int 2))) (eC (.int 1)))) (sSet 2 (eBack2 (eVar 2))) sNext [.val (.list (ns.map .int)), .val (.list (vs.map .int)), .val (.list (p0.map .str)), .emp, .emp, .emp, .emp, .emp, .emp, .emp, .emp, .emp, .emp, .emp, .emp] = .ok (.next [.val (.list (ns.map .int)), .val (.list (vs.map .int)), .val (.list (p.map .str)), .emp, .emp, .emp, .emp, .emp, .emp, .emp, .emp, .emp, .emp, .emp, .emp]) := by
    have t : (tE boolD (Pyr.e2 eqD (Pyr.e2 modD (eN (oneD int2D) (aC (Pyr.e2 atD (eVar 1) (eC (.int 110))) Pyr.a0)) (eC (.int 2))) (eC (.int 1)))) (frzE [.val (.list (ns.map .int)), .val (.list (vs.map .int)), .val (.list (p0.map .str)), .emp, .emp, .emp, .emp, .emp, .emp, .emp, .emp, .emp, .emp, .emp, .emp]) = .ok (decide (j = 1)) := by
      refine (tE_ok (x := .bool (decide ((j : Int) = 1))) ((e2_ok (x := .int (j : Int)) (y := .int 1) (ej _ rfl) rfl).trans (eqD_int _ _))).trans ?_
      show Res.ok (decide ((j : Int) = 1)) = _
      congr 1
      rw [decide_eq_decide]
      omega
    rcases (show j = 0 ∨ j = 1 by omega) with rfl | rfl
    · exact ⟨p0, lp, pw, pn, ifF t rfl⟩
    · refine ⟨p0.reverse, by rw [List.length_reverse, lp], fun x hx => pw x (List.mem_reverse.mp hx), (List.reverse_perm p0).nodup_iff.mpr pn, ifT t (set_ok ?_)⟩
      rw [List.map_reverse]
      rfl
  obtain ⟨S, eS, oS⟩ := schema_run ((vs.drop 4).take (13 - 4)) p (by rw [cut_len (by omega) (by omega)]; decide) (by omega)
  have nmS := oS.nm
  have sw : ∀ t ∈ S, Wd t.1 := fun t ht => by
    have : t.1 ∈ S.map (·.1) := List.mem_map.mpr ⟨t, ht, rfl⟩
    rw [nmS] at this
    exact pw _ (List.mem_of_mem_take this)
  have nd : (S.map (·.1)).Nodup := by
    rw [nmS]
    exact (List.take_sublist _ _).nodup pn
  refine ⟨vs, p, w, S, lv, dn, ⟨lp, pw, lw, ww, sw, oS.one, oS.two, fun t ht => ⟨(oS.w t ht).1, (oS.w t ht).2.1⟩, nd⟩, ?_⟩
  unfold m_law
  rw [defM_eq (np := 1) rfl]
  show outR (F_law [.val (.list (ns.map .int)), .emp, .emp, .emp, .emp, .emp, .emp, .emp, .emp, .emp, .emp, .emp, .emp, .emp, .emp]) = _
  unfold F_law
  refine seqO (set_ok (d := .list (vs.map .int)) (call_ok (xs := [.list (ns.map .int), .int 130]) rfl e0)) ?_
  unfold T_law_1
  refine seqO (set_ok (d := .list (p0.map .str)) (call_ok (xs := [.int vs[0], .int vs[1], .int 4]) (aC_ok (at1 0 (by omega) rfl) (aC_ok (at1 1 (by omega) rfl) (aC_ok rfl (xs := []) rfl))) e1)) ?_
  unfold T_law_2
  refine seqO hp ?_
  unfold T_law_3
  refine seqO (set_ok (d := .list (w.map .str)) (call_ok (xs := [.int vs[2], .int vs[3], .int 3]) (aC_ok (at1 2 (by omega) rfl) (aC_ok (at1 3 (by omega) rfl) (aC_ok rfl (xs := []) rfl))) e3)) ?_
  unfold T_law_4
  exact seqO (set_ok (d := .list (S.map tbD)) (call_ok (xs := [.list (((vs.drop 4).take (13 - 4)).map .int), .list (p.map .str)]) (aC_ok (sl1 4 13 (by omega) (by omega) rfl) (aC_ok rfl (xs := []) rfl)) eS)) rfl
theorem lCall_ok {m : List Pyr.D → Res RV} {fr : En → Res (List Pyr.D)} {ρ : En} {xs ds : List Pyr.D} (hr : fr ρ = .ok xs) (hm : m xs = .ok (.own ds)) : lCall m fr ρ = .ok ds := by
  unfold lCall
  rw [hr, bind_ok, hm]
  rfl
theorem ne_test {fa fb : En → Res Pyr.D} {ρ : En} {x : Pyr.D} (ha : fa ρ = .ok x) (hb : fb ρ = .ok x) (h : Tame x) : (tE boolD (Pyr.e2 neD fa fb)) ρ = .ok false :=
  tE_ok (x := .bool false) ((e2_ok ha hb).trans h.ne)
theorem law_true (ns : List Int) (h : ns.length ≤ 63) : m_law [scriptD ns] = .ok (.val (.bool true)) := by
  obtain ⟨vs, p, w, S, lv, dn, W, e⟩ := start_run ns h
  rw [e]
  have s1 := W.s1
  have s4 := W.s4
  have hS : S.length ≤ 100 := by omega
  have sw := W.sw
  have ww := W.ww
  have wl := W.wl
  have pl := W.pl
  have d4 : ∀ t ∈ S, t.2.1 ≤ 4 := fun t ht => (W.sd t ht).2
  have gG : ∀ {f : Ft}, FtIn S w f → GN 4 (toG f) := fun hf => fin_ok sw ww d4 hf
  -- the facts
  obtain ⟨n1, h1, m1⟩ := dm (vs := vs) 48 8 (by omega) (by decide)
  obtain ⟨fs, eF, lFs, iF'⟩ := lfacts_run S w ((vs.drop 13).take (48 - 13)) n1 s1 s4 (by omega) W.sd (by rw [cut_len (by omega) (by omega)]; omega) (by omega)
  have eA := asc_run S fs hS (by omega) fun f hf => ft_ok sw ww (iF' f hf)
  have lA := asc_le S fs
  obtain ⟨g1, eg1, k1, l1⟩ := spoilt_run S w ((ascF S fs).map toG) ((vs.drop 49).take (52 - 49)) 4 s1 sw (by omega) ww (by rw [cut_len (by omega) (by omega)]) (fun g hg => by
    obtain ⟨f, hf, rfl⟩ := List.mem_map.mp hg
    exact gG (iF' f (asc_mem.mp hf))) (by decide) (by rw [List.length_map]; omega)
  rw [toG_map] at eg1
  rw [List.length_map] at l1
  obtain ⟨g2, eg2, k2, l2⟩ := spoilt_run S w g1 ((vs.drop 52).take (55 - 52)) 5 s1 sw (by omega) ww (by rw [cut_len (by omega) (by omega)]) k1 (by decide) (by omega)
  have ask := asked_run S hS sw W.nd g2 6 (by decide) k2 (by omega)
  unfold T_law_5
  refine seqO (ρ' := lf vs p w S (.val (.list (ns.map .int))) (.val (.list ((ascF S fs).map ftD))) .emp .emp .emp .emp .emp .emp .emp) (set_ok (call_ok (xs := [.list (S.map tbD), .list (fs.map ftD)]) (aC_ok rfl (aC_ok (call_ok (xs := [.list (S.map tbD), .list (w.map .str), .list (((vs.drop 13).take (48 - 13)).map .int), .int (n1 : Int)]) (aC_ok rfl (aC_ok rfl (aC_ok (sl1 13 48 (by omega) (by omega) rfl) (aC_ok (m1 _ rfl) (xs := []) rfl)))) eF) (xs := []) rfl)) eA)) ?_
  unfold T_law_6
  refine seqO (ρ' := lf vs p w S (.val (.list (ns.map .int))) (.val (.list (g2.map gfD))) .emp .emp .emp .emp .emp .emp .emp) (set_ok (call_ok (xs := [.list (S.map tbD), .list (w.map .str), .list (g1.map gfD), .list (((vs.drop 52).take (55 - 52)).map .int)]) (aC_ok rfl (aC_ok rfl (aC_ok (call_ok (xs := [.list (S.map tbD), .list (w.map .str), .list ((ascF S fs).map ftD), .list (((vs.drop 49).take (52 - 49)).map .int)]) (aC_ok rfl (aC_ok rfl (aC_ok rfl (aC_ok (sl1 49 52 (by omega) (by omega) rfl) (xs := []) rfl)))) eg1) (aC_ok (sl1 52 55 (by omega) (by omega) rfl) (xs := []) rfl)))) eg2)) ?_
  unfold T_law_7
  have t7 : (tNotR (tE truD (eCall m__law_asked (aC (eVar 4) (aC (eVar 5) Pyr.a0))))) (frzE (lf vs p w S (.val (.list (ns.map .int))) (.val (.list (g2.map gfD))) .emp .emp .emp .emp .emp .emp .emp)) = .ok false := not_ok (b := true) ((tE_ok (call_ok (xs := [.list (S.map tbD), .list (g2.map gfD)]) rfl ask)).trans rfl)
  refine seqO (ifF t7 rfl) ?_
  -- the database
  obtain ⟨n2, h2, m2⟩ := dm (vs := vs) 80 6 (by omega) (by decide)
  obtain ⟨D, eD, lD, oD⟩ := ldatabase_run S w ((vs.drop 55).take (80 - 55)) n2 s1 s4 (by omega) W.sd (by rw [cut_len (by omega) (by omega)]; omega) (by omega) sw W.nd ww
  have okD : ∀ f ∈ D, FtOk f := fun f hf => (ft_ok sw ww (oD.fin f hf)).1
  unfold T_law_8
  refine seqO (ρ' := lf vs p w S (.val (.list (ns.map .int))) (.val (.list (g2.map gfD))) (.val (.list (D.map ftD))) .emp .emp .emp .emp .emp .emp) (set_ok (call_ok (xs := [.list (S.map tbD), .list (w.map .str), .list (((vs.drop 55).take (80 - 55)).map .int), .int (n2 : Int)]) (aC_ok rfl (aC_ok rfl (aC_ok (sl1 55 80 (by omega) (by omega) rfl) (aC_ok (m2 _ rfl) (xs := []) rfl)))) eD)) ?_
  -- deleted
  let q : Ft → Bool := fun f => decide ((0 : Int) < (vs.getD 81 0 + ((f.2.getD 0 "").length : Int)).fmod 3)
  let A0 := D.filter q
  unfold T_law_9
  refine seqO (ρ' := lf vs p w S (.val (.list (ns.map .int))) (.val (.list (g2.map gfD))) (.val (.list (D.map ftD))) (.own (.lst (A0.map ftD))) .emp .emp .emp .emp .emp) (setL_ok (d := A0.map ftD) ?_) ?_
  · refine lComp_ok (ds := D.map ftD) rfl (by rw [List.length_map]; omega) (compF_some ftD ftD q D fun f hf => ⟨_, rfl, ?_, fun _ => rfl⟩)
    obtain ⟨⟨t, ht, _, et⟩, _⟩ := oD.fin f hf
    have hr : 1 ≤ f.2.length := by rw [et]; exact (W.sd t ht).1
    have e81 : vs.getD 81 0 = vs[81] := by rw [List.getD_eq_getElem?_getD, List.getElem?_eq_getElem (by omega)]; rfl
    have er : f.2.getD 0 "" = f.2[0] := by rw [List.getD_eq_getElem?_getD, List.getElem?_eq_getElem hr]; rfl
    have hw0 : (f.2[0]).length ≤ 100000 := by have := ((okD f hf).2 f.2[0] (List.getElem_mem _)).2.1; omega
    refine tE_ok (x := .bool (q f)) ?_
    refine (e2_ok (x := .int ((vs[81] + (f.2[0].length : Int)).fmod 3)) (y := .int 0) (mod_ok (x := vs[81] + (f.2[0].length : Int)) ((e2_ok (x := .int vs[81]) (y := .int (f.2[0].length : Int)) (at1 81 (by omega) rfl) ((one_ok (x := .str f.2[0]) ((e2_ok (x := .tuple (f.2.map .str)) (y := .int 0) ((e2_ok (x := ftD f) (y := .int 1) rfl rfl).trans (ft_1 f)) rfl).trans ?_)).trans (len_str hw0))).trans rfl) rfl) rfl).trans ?_
    · exact at_tup (k := 0) (by rw [List.getElem?_map, List.getElem?_eq_getElem hr]; rfl)
    · show _ = Res.ok (PyData.bool (decide ((0 : Int) < (vs.getD 81 0 + ((f.2.getD 0 "").length : Int)).fmod 3)))
      rw [e81, er]
      rfl
  obtain ⟨n3, h3, m3⟩ := dm (vs := vs) 122 3 (by omega) (by decide)
  obtain ⟨fd, eFd, lFd, iFd⟩ := lfacts_run S w ((vs.drop 112).take (122 - 112)) n3 s1 s4 (by omega) W.sd (by rw [cut_len (by omega) (by omega)]; omega) (by omega)
  have lA0 : A0.length ≤ D.length := List.length_filter_le _ _
  have iA : ∀ f ∈ A0 ++ fd, FtIn S w f := fun f hf => (List.mem_append.mp hf).elim (fun h => oD.fin f (List.mem_filter.mp h).1) (iFd f)
  have lAf : (A0 ++ fd).length ≤ 7 := by rw [List.length_append]; omega
  have eAd := asc_run S (A0 ++ fd) hS (by omega) fun f hf => ft_ok sw ww (iA f hf)
  have lAd := asc_le S (A0 ++ fd)
  obtain ⟨gd, egd, kd, ld⟩ := spoilt_run S w ((ascF S (A0 ++ fd)).map toG) ((vs.drop 82).take (85 - 82)) 4 s1 sw (by omega) ww (by rw [cut_len (by omega) (by omega)]) (fun g hg => by
    obtain ⟨f, hf, rfl⟩ := List.mem_map.mp hg
    exact gG (iA f (asc_mem.mp hf))) (by decide) (by rw [List.length_map]; omega)
  rw [toG_map] at egd
  rw [List.length_map] at ld
  unfold T_law_10
  show outR (sSeq _ T_law_11 (lf vs p w S (.val (.list (ns.map .int))) (.val (.list (g2.map gfD))) (.val (.list (D.map ftD))) (.val (.list (A0.map ftD))) .emp .emp .emp .emp .emp)) = _
  refine seqO (ρ' := lf vs p w S (.val (.list (ns.map .int))) (.val (.list (g2.map gfD))) (.val (.list (D.map ftD))) (.own (.lst ((ascF S (A0 ++ fd)).map ftD))) .emp .emp .emp .emp .emp) (setL_ok (d := (ascF S (A0 ++ fd)).map ftD) (lCall_ok (xs := [.list (S.map tbD), .list ((A0 ++ fd).map ftD)]) (aC_ok rfl (aC_ok ((e2_ok (x := .list (A0.map ftD)) (y := .list (fd.map ftD)) rfl (call_ok (xs := [.list (S.map tbD), .list (w.map .str), .list (((vs.drop 112).take (122 - 112)).map .int), .int (n3 : Int)]) (aC_ok rfl (aC_ok rfl (aC_ok (sl1 112 122 (by omega) (by omega) rfl) (aC_ok (m3 _ rfl) (xs := []) rfl)))) eFd)).trans (by rw [List.map_append]; exact okL_ok (by rw [List.length_map, List.length_map]; show _ ≤ 100000; omega))) (xs := []) rfl)) eAd)) ?_
  unfold T_law_11
  show outR (sSeq _ T_law_12 (lf vs p w S (.val (.list (ns.map .int))) (.val (.list (g2.map gfD))) (.val (.list (D.map ftD))) (.val (.list ((ascF S (A0 ++ fd)).map ftD))) .emp .emp .emp .emp .emp)) = _
  refine seqO (ρ' := lf vs p w S (.val (.list (ns.map .int))) (.val (.list (g2.map gfD))) (.val (.list (D.map ftD))) (.own (.lst (gd.map gfD))) .emp .emp .emp .emp .emp) (setL_ok (d := gd.map gfD) (lCall_ok (xs := [.list (S.map tbD), .list (w.map .str), .list ((ascF S (A0 ++ fd)).map ftD), .list (((vs.drop 82).take (85 - 82)).map .int)]) (aC_ok rfl (aC_ok rfl (aC_ok rfl (aC_ok (sl1 82 85 (by omega) (by omega) rfl) (xs := []) rfl)))) egd)) ?_
  -- inserted
  obtain ⟨n4, h4, m4⟩ := dm (vs := vs) 105 5 (by omega) (by decide)
  obtain ⟨fi, eFi, lFi, iFi⟩ := lfacts_run S w ((vs.drop 85).take (105 - 85)) n4 s1 s4 (by omega) W.sd (by rw [cut_len (by omega) (by omega)]; omega) (by omega)
  have eAi := asc_run S fi hS (by omega) fun f hf => ft_ok sw ww (iFi f hf)
  have lAi := asc_le S fi
  obtain ⟨gi, egi, ki, li⟩ := spoilt_run S w ((ascF S fi).map toG) ((vs.drop 106).take (109 - 106)) 4 s1 sw (by omega) ww (by rw [cut_len (by omega) (by omega)]) (fun g hg => by
    obtain ⟨f, hf, rfl⟩ := List.mem_map.mp hg
    exact gG (iFi f (asc_mem.mp hf))) (by decide) (by rw [List.length_map]; omega)
  rw [toG_map] at egi
  rw [List.length_map] at li
  unfold T_law_12
  refine seqO (ρ' := lf vs p w S (.val (.list (ns.map .int))) (.val (.list (g2.map gfD))) (.val (.list (D.map ftD))) (.own (.lst (gd.map gfD))) (.val (.list ((ascF S fi).map ftD))) .emp .emp .emp .emp) (set_ok (call_ok (xs := [.list (S.map tbD), .list (fi.map ftD)]) (aC_ok rfl (aC_ok (call_ok (xs := [.list (S.map tbD), .list (w.map .str), .list (((vs.drop 85).take (105 - 85)).map .int), .int (n4 : Int)]) (aC_ok rfl (aC_ok rfl (aC_ok (sl1 85 105 (by omega) (by omega) rfl) (aC_ok (m4 _ rfl) (xs := []) rfl)))) eFi) (xs := []) rfl)) eAi)) ?_
  unfold T_law_13
  refine seqO (ρ' := lf vs p w S (.val (.list (ns.map .int))) (.val (.list (g2.map gfD))) (.val (.list (D.map ftD))) (.own (.lst (gd.map gfD))) (.val (.list (gi.map gfD))) .emp .emp .emp .emp) (set_ok (call_ok (xs := [.list (S.map tbD), .list (w.map .str), .list ((ascF S fi).map ftD), .list (((vs.drop 106).take (109 - 106)).map .int)]) (aC_ok rfl (aC_ok rfl (aC_ok rfl (aC_ok (sl1 106 109 (by omega) (by omega) rfl) (xs := []) rfl)))) egi)) ?_
  have okd : ∀ g ∈ gd, GOk g := fun g hg => (kd g hg).ok (by decide)
  have oki : ∀ g ∈ gi, GOk g := fun g hg => (ki g hg).ok (by decide)
  have eT := told_change S hS sw D gd gi okd oki (by omega)
  have eU := change_due S hS sw D gd gi okd oki okD
  have tc := tame_ch S hS sw D gd gi
  have td := tame_gs kd
  have ti := tame_gs ki
  have tCh : Tame (.tuple [.list (gd.map gfD), .list (gi.map gfD)]) := ⟨by
    show (fDs 53 (gd.map gfD) && (fDs 53 (gi.map gfD) && true)) = true
    rw [fDs_all fun d hd => by
      obtain ⟨g, hg, rfl⟩ := List.mem_map.mp hd
      exact (gf_f (m := 51) (kd g hg)).1, fDs_all fun d hd => by
      obtain ⟨g, hg, rfl⟩ := List.mem_map.mp hd
      exact (gf_f (m := 51) (ki g hg)).1]
    rfl, by
    show (noB (.list (gd.map gfD)) && (noB (.list (gi.map gfD)) && true)) = true
    rw [td.b, ti.b]
    rfl⟩
  have tD : Tame (.list (D.map ftD)) := by
    have := tame_gs (n := 4) (gs := D.map toG) fun g hg => by
      obtain ⟨f, hf, rfl⟩ := List.mem_map.mp hg
      exact gG (oD.fin f hf)
    rw [toG_map] at this
    exact this
  unfold T_law_14
  show outR (sSeq _ T_law_15 (lf vs p w S (.val (.list (ns.map .int))) (.val (.list (g2.map gfD))) (.val (.list (D.map ftD))) (.val (.list (gd.map gfD))) (.val (.list (gi.map gfD))) .emp .emp .emp .emp)) = _
  refine seqO (ρ' := lf vs p w S (.val (.list (ns.map .int))) (.val (.list (g2.map gfD))) (.val (.list (D.map ftD))) (.val (.list (gd.map gfD))) (.val (.list (gi.map gfD))) (.val (.tuple [.list (gd.map gfD), .list (gi.map gfD)])) .emp .emp .emp) (set_ok rfl) ?_
  unfold T_law_15
  refine seqO (ρ' := lf vs p w S (.val (.list (ns.map .int))) (.val (.list (g2.map gfD))) (.val (.list (D.map ftD))) (.val (.list (gd.map gfD))) (.val (.list (gi.map gfD))) (.val (.tuple [.list (gd.map gfD), .list (gi.map gfD)])) (.val (.list (D.map ftD))) .emp .emp) (set_ok rfl) ?_
  unfold T_law_16
  refine seqO (ifF (ne_test (call_ok (xs := [.int 2, .list (S.map tbD), .list (D.map ftD), .tuple [.list (gd.map gfD), .list (gi.map gfD)]]) rfl eT) (call_ok (xs := [.list (S.map tbD), .list (D.map ftD), .tuple [.list (gd.map gfD), .list (gi.map gfD)]]) rfl eU) tc) rfl) ?_
  unfold T_law_17
  refine seqO (ifF (or_ok (a := false) (b := false) (ne_test (x := .tuple [.list (gd.map gfD), .list (gi.map gfD)]) rfl rfl tCh) fun _ => ne_test (x := .list (D.map ftD)) rfl rfl tD) rfl) ?_
  -- the single table
  obtain ⟨cs, nc, lc25, ic, eP⟩ := pool25 vs[111] (dn 111 (by omega))
  obtain ⟨ds, eS, lds, ids, pds⟩ := sorted25 nc lc25 ic
  have p0 : p[0]? = some p[0] := List.getElem?_eq_getElem (by omega)
  have p1 : p[1]? = some p[1] := List.getElem?_eq_getElem (by omega)
  have W0 : Wd p[0] := W.pw _ (List.getElem_mem _)
  have W1 : Wd p[1] := W.pw _ (List.getElem_mem _)
  have sw1 : ∀ t ∈ S1 p[0], Wd t.1 := fun t ht => by rw [List.mem_singleton.mp ht]; exact W0
  have lx : ("x" : Str).length = 1 := by decide +kernel
  have two : ∀ c : Nat, addD (.str (oneS c)) (.str "x") = .ok (.str (twoS c)) := fun c => addD_str (by rw [lx]; show 1 + 1 ≤ 100000; decide)
  unfold T_law_18
  refine seqO (ρ' := lf vs p w S (.val (.list (ns.map .int))) (.val (.list (g2.map gfD))) (.val (.list (D.map ftD))) (.val (.list (gd.map gfD))) (.val (.list (gi.map gfD))) (.val (.tuple [.list (gd.map gfD), .list (gi.map gfD)])) (.val (.list (D.map ftD))) (.own (.lst ((ds.map (gx p[0])).map gfD))) .emp) (setL_ok (d := (ds.map (gx p[0])).map gfD) ?_) ?_
  · have hi : (iF walkD (eL (lF (oneL sortL) (aC (eCall m__law_pool (aC (eC (.int 0)) (aC (Pyr.e2 atD (eVar 1) (eC (.int 111))) (aC (eC (.int 25)) Pyr.a0)))) Pyr.a0)))) (purE (lf vs p w S (.val (.list (ns.map .int))) (.val (.list (g2.map gfD))) (.val (.list (D.map ftD))) (.val (.list (gd.map gfD))) (.val (.list (gi.map gfD))) (.val (.tuple [.list (gd.map gfD), .list (gi.map gfD)])) (.val (.list (D.map ftD))) .emp .emp)) = .ok (ds.map fun c => .str (oneS c)) := by
      have h1 := call_ok (fr := aC (eC (.int 0)) (aC (Pyr.e2 atD (eVar 1) (eC (.int 111))) (aC (eC (.int 25)) Pyr.a0))) (ρ := purE (lf vs p w S (.val (.list (ns.map .int))) (.val (.list (g2.map gfD))) (.val (.list (D.map ftD))) (.val (.list (gd.map gfD))) (.val (.list (gi.map gfD))) (.val (.tuple [.list (gd.map gfD), .list (gi.map gfD)])) (.val (.list (D.map ftD))) .emp .emp)) (aC_ok rfl (aC_ok (at1 111 (by omega) rfl) (aC_ok rfl (xs := []) rfl))) eP
      refine (iF_ok (x := .list (ds.map fun c => .str (oneS c))) (mapL_ok ?_)).trans rfl
      unfold lF
      rw [aC_ok h1 (xs := []) rfl, bind_ok]
      exact eS
    rw [List.map_map]
    refine lComp_ok hi (by rw [List.length_map, lds]; decide) (compF_en (fun c => .str (oneS c)) (gfD ∘ gx p[0]) ds fun c hc => ⟨_, rfl, rfl, ?_⟩)
    refine tup_ok (xs := [.str p[0], .tuple [.str (twoS c)]]) (aC_ok ((e2_ok (x := .list (p.map .str)) (y := .int 0) rfl rfl).trans (str_at (k := 0) (by omega))) (aC_ok (tup_ok (xs := [.str (twoS c)]) (aC_ok ((e2_ok (x := .str (oneS c)) (y := .str "x") rfl rfl).trans (two c)) (xs := []) rfl) (show 1 ≤ 100000 by decide)) (xs := []) rfl)) (show 2 ≤ 100000 by decide)
  unfold T_law_19
  refine seqO (ρ' := lf vs p w S (.val (.list (ns.map .int))) (.val (.list (g2.map gfD))) (.val (.list (D.map ftD))) (.val (.list (gd.map gfD))) (.val (.list (gi.map gfD))) (.val (.tuple [.list (gd.map gfD), .list (gi.map gfD)])) (.val (.list (D.map ftD))) (.own (.lst ((ds.map (gx p[0])).map gfD))) (.val (.list ((S1 p[0]).map tbD)))) (set_ok (mapL_ok ?_)) ?_
  · unfold lN
    rw [aC_ok (tup_ok (xs := [.str p[0], .int 1, .none]) (aC_ok ((e2_ok (x := .list (p.map .str)) (y := .int 0) rfl rfl).trans (str_at (k := 0) (by omega))) (aC_ok rfl (aC_ok rfl (xs := []) rfl))) (show 3 ≤ 100000 by decide)) (xs := []) rfl, bind_ok]
    rfl
  have okm : ∀ g ∈ ds.map (gx p[0]), GOk g := fun g hg => by
    obtain ⟨c, hc, rfl⟩ := List.mem_map.mp hg
    exact gx_ok (ids c hc)
  have eG := told_database (S1 p[0]) (by decide +kernel : (1 : Nat) ≤ 100) sw1 ((ds.drop 1).map (gx p[0])) (fun g hg => okm g (by
    obtain ⟨c, hc, rfl⟩ := List.mem_map.mp hg
    exact List.mem_map.mpr ⟨c, List.mem_of_mem_drop hc, rfl⟩)) (by rw [List.length_map, List.length_drop]; omega) .none
  rw [db1_good p[0] (ds.drop 1) (by rw [List.length_drop]; omega) (fun c hc => ids c (List.mem_of_mem_drop hc)) (pds.sublist (List.drop_sublist _ _))] at eG
  have eZ := told_database (S1 p[0]) (by decide +kernel : (1 : Nat) ≤ 100) sw1 (ds.map (gx p[0])) okm (by rw [List.length_map]; omega) .none
  rw [db_size _ _ (by rw [List.length_map]; omega)] at eZ
  have hx1 : GOk (⟨some p[1], [.str "x"]⟩ : GF) := ⟨fun d hd => by
    rw [List.mem_singleton.mp hd]
    exact .inl ⟨_, rfl, by decide +kernel, by decide +kernel⟩, by show 1 ≤ 50; decide⟩
  have eY := told_database (S1 p[0]) (by decide +kernel : (1 : Nat) ≤ 100) sw1 ((ds.take 24).map (gx p[0]) ++ [(⟨some p[1], [.str "x"]⟩ : GF)]) (fun g hg => by
    rcases List.mem_append.mp hg with hg | hg
    · obtain ⟨c, hc, rfl⟩ := List.mem_map.mp hg
      exact okm _ (List.mem_map.mpr ⟨c, List.mem_of_mem_take hc, rfl⟩)
    · rw [List.mem_singleton.mp hg]; exact hx1) (by rw [List.length_append, List.length_map, List.length_take]; show _ + 1 ≤ 100; omega) .none
  rw [db_size _ _ (by rw [List.length_append, List.length_map, List.length_take]; show 24 < _ + 1; omega)] at eY
  unfold T_law_20
  have tG : Tame (.tuple [.str "good"]) := ⟨by kernel_rfl, rfl⟩
  have tZ : Tame (.tuple [.str "size"]) := ⟨by kernel_rfl, rfl⟩
  have sd : (eSlice (eVar 11) (oSome (eC (.int 1))) oNone) (frzE (lf vs p w S (.val (.list (ns.map .int))) (.val (.list (g2.map gfD))) (.val (.list (D.map ftD))) (.val (.list (gd.map gfD))) (.val (.list (gi.map gfD))) (.val (.tuple [.list (gd.map gfD), .list (gi.map gfD)])) (.val (.list (D.map ftD))) (.own (.lst ((ds.map (gx p[0])).map gfD))) (.val (.list ((S1 p[0]).map tbD))))) = .ok (.list (((ds.drop 1).map (gx p[0])).map gfD)) := by
    show Res.ok (PyData.list (cutG ((ds.map (gx p[0])).map gfD) (some 1) none)) = _
    rw [cut1, List.map_drop, List.map_drop]
  refine seqO (ifF (or_ok (a := false) (b := false) (ne_test (x := .tuple [.str "good"]) (call_ok (aC_ok rfl (aC_ok rfl (aC_ok sd (aC_ok rfl (xs := []) rfl)))) eG) rfl tG) fun _ => ne_test (x := .tuple [.str "size"]) (call_ok (xs := [.int 1, .list ((S1 p[0]).map tbD), .list ((ds.map (gx p[0])).map gfD), .none]) rfl eZ) rfl tZ) rfl) ?_
  unfold T_law_21
  have st : (Pyr.e2 addD (eSlice (eVar 11) oNone (oSome (eC (.int 24)))) (eL (lN (aC (eN tupD (aC (Pyr.e2 atD (eVar 2) (eC (.int 1))) (aC (eN tupD (aC (eC (.str "x")) Pyr.a0)) Pyr.a0))) Pyr.a0)))) (frzE (lf vs p w S (.val (.list (ns.map .int))) (.val (.list (g2.map gfD))) (.val (.list (D.map ftD))) (.val (.list (gd.map gfD))) (.val (.list (gi.map gfD))) (.val (.tuple [.list (gd.map gfD), .list (gi.map gfD)])) (.val (.list (D.map ftD))) (.own (.lst ((ds.map (gx p[0])).map gfD))) (.val (.list ((S1 p[0]).map tbD))))) = .ok (.list (((ds.take 24).map (gx p[0]) ++ [(⟨some p[1], [.str "x"]⟩ : GF)]).map gfD)) := by
    have a1 : (eSlice (eVar 11) oNone (oSome (eC (.int 24)))) (frzE (lf vs p w S (.val (.list (ns.map .int))) (.val (.list (g2.map gfD))) (.val (.list (D.map ftD))) (.val (.list (gd.map gfD))) (.val (.list (gi.map gfD))) (.val (.tuple [.list (gd.map gfD), .list (gi.map gfD)])) (.val (.list (D.map ftD))) (.own (.lst ((ds.map (gx p[0])).map gfD))) (.val (.list ((S1 p[0]).map tbD))))) = .ok (.list (((ds.take 24).map (gx p[0])).map gfD)) := by
      show Res.ok (PyData.list (cutG ((ds.map (gx p[0])).map gfD) none (some ((24 : Nat) : Int)))) = _
      rw [Pyr.cut_front, List.map_take, List.map_take]
    have a2 : (eL (lN (aC (eN tupD (aC (Pyr.e2 atD (eVar 2) (eC (.int 1))) (aC (eN tupD (aC (eC (.str "x")) Pyr.a0)) Pyr.a0))) Pyr.a0))) (frzE (lf vs p w S (.val (.list (ns.map .int))) (.val (.list (g2.map gfD))) (.val (.list (D.map ftD))) (.val (.list (gd.map gfD))) (.val (.list (gi.map gfD))) (.val (.tuple [.list (gd.map gfD), .list (gi.map gfD)])) (.val (.list (D.map ftD))) (.own (.lst ((ds.map (gx p[0])).map gfD))) (.val (.list ((S1 p[0]).map tbD))))) = .ok (.list [gfD (⟨some p[1], [.str "x"]⟩ : GF)]) := mapL_ok (by
      unfold lN
      rw [aC_ok (tup_ok (xs := [.str p[1], .tuple [.str "x"]]) (aC_ok ((e2_ok (x := .list (p.map .str)) (y := .int 1) rfl rfl).trans (str_at (k := 1) (by omega))) (aC_ok (tup_ok (xs := [.str "x"]) rfl (show 1 ≤ 100000 by decide)) (xs := []) rfl)) (show 2 ≤ 100000 by decide)) (xs := []) rfl, bind_ok]
      rfl)
    refine (e2_ok a1 a2).trans ?_
    rw [List.map_append]
    exact okL_ok (by rw [List.length_map, List.length_map, List.length_take]; show _ + 1 ≤ 100000; omega)
  have fin := (e2_ok (g := eqD) (call_ok (m := m__law_told) (aC_ok (show (eC (.int 1)) _ = Res.ok (PyData.int 1) from rfl) (aC_ok (show eVar 12 _ = Res.ok (PyData.list ((S1 p[0]).map tbD)) from rfl) (aC_ok st (aC_ok (show (eC .none) _ = Res.ok PyData.none from rfl) (xs := []) (show Pyr.a0 _ = Res.ok [] from rfl))))) eY) (show (eN tupD (aC (eC (.str "size")) Pyr.a0)) _ = Res.ok (PyData.tuple [.str "size"]) from rfl)).trans tZ.eq
  unfold sRet
  rw [evP_frz (d := .bool true) rfl fin rfl]
  rfl
theorem ends {P : Program} {w : World} {K : PySem.W.Frag} {mg : Str → Option Value} {h : Heap} {fa : Addr} {q : Program} {c_is_word P_is_word : Addr} {dd_is_word : DefRec} {c_is_row P_is_row : Addr} {dd_is_row : DefRec} (X : K.In h) (G : h.Ns mainGlobals mg) (hfa : mg "law" = some (.ref fa)) (tabs : ∀ (y : Str) (dd : DefRec) (c P : Addr), (recsOf q).find? (fun e => e.name == y) = some dd → PySem.W.tabIn K y = some (c, P) → PySem.W.CodeHd h c P ∧ h.get? P = some (PySem.W.tabObj #[])) (d__law_draws : DefIn K "_law_draws" s__law_draws) (d__law_pool : DefIn K "_law_pool" s__law_pool) (d__law_schema : DefIn K "_law_schema" s__law_schema) (d__law_place : DefIn K "_law_place" s__law_place) (d__law_ascending : DefIn K "_law_ascending" s__law_ascending) (d__law_fact : DefIn K "_law_fact" s__law_fact) (d__law_facts : DefIn K "_law_facts" s__law_facts) (d__law_spoilt : DefIn K "_law_spoilt" s__law_spoilt) (d_place_of : DefIn K "place_of" s_place_of) (d_is_word : DefInC K "is_word" s_is_word (.ref c_is_word)) (d_is_row : DefInC K "is_row" s_is_row (.ref c_is_row)) (d_check_facts : DefIn K "check_facts" s_check_facts) (d_key_of : DefIn K "key_of" s_key_of) (d_key_clashes : DefIn K "key_clashes" s_key_clashes) (d_check_database : DefIn K "check_database" s_check_database) (d_check_change : DefIn K "check_change" s_check_change) (d__law_class : DefIn K "_law_class" s__law_class) (d__law_told : DefIn K "_law_told" s__law_told) (d__law_is_word : DefIn K "_law_is_word" s__law_is_word) (d__law_facts_due : DefIn K "_law_facts_due" s__law_facts_due) (d__law_same_key : DefIn K "_law_same_key" s__law_same_key) (d__law_database_due : DefIn K "_law_database_due" s__law_database_due) (d__law_asked : DefIn K "_law_asked" s__law_asked) (d__law_database : DefIn K "_law_database" s__law_database) (d__law_change_due : DefIn K "_law_change_due" s__law_change_due) (d_law : DefIn K "law" s_law) (y_ValueError : PySem.W.nsIn K mainGlobals "ValueError" = some none) (y_all : PySem.W.nsIn K mainGlobals "all" = some none) (y_any : PySem.W.nsIn K mainGlobals "any" = some none) (y_enumerate : PySem.W.nsIn K mainGlobals "enumerate" = some none) (y_int : PySem.W.nsIn K mainGlobals "int" = some none) (y_isinstance : PySem.W.nsIn K mainGlobals "isinstance" = some none) (y_len : PySem.W.nsIn K mainGlobals "len" = some none) (y_list : PySem.W.nsIn K mainGlobals "list" = some none) (y_range : PySem.W.nsIn K mainGlobals "range" = some none) (y_set : PySem.W.nsIn K mainGlobals "set" = some none) (y_sorted : PySem.W.nsIn K mainGlobals "sorted" = some none) (y_str : PySem.W.nsIn K mainGlobals "str" = some none) (y_tuple : PySem.W.nsIn K mainGlobals "tuple" = some none) (xq_BadRow : ExQ K "BadRow") (xq_BadSize : ExQ K "BadSize") (xq_NotAscending : ExQ K "NotAscending") (xq_UnknownTable : ExQ K "UnknownTable") (iq_AlreadyThere : InitQ K "AlreadyThere" "AlreadyThere.__init__" ["fact"] mt_AlreadyThere) (iq_KeyBroken : InitQ K "KeyBroken" "KeyBroken.__init__" ["first", "second"] mt_KeyBroken) (iq_NotThere : InitQ K "NotThere" "NotThere.__init__" ["fact"] mt_NotThere) (xfq_0 : XfQ K "KeyBroken" "first") (xfq_1 : XfQ K "KeyBroken" "second") (xfq_2 : XfQ K "NotThere" "fact") (xfq_3 : XfQ K "AlreadyThere" "fact") (jq_0 : IsO K "BadRow" "UnknownTable" false) (jq_1 : IsO K "BadRow" "BadRow" true) (jq_2 : IsO K "BadRow" "NotAscending" false) (jq_3 : IsO K "BadRow" "BadSize" false) (jq_4 : IsO K "BadRow" "KeyBroken" false) (jq_5 : IsO K "BadRow" "NotThere" false) (jq_6 : IsO K "BadRow" "AlreadyThere" false) (jq_7 : IsB K "BadRow" "ValueError" "ValueError" true) (jq_8 : IsO K "BadSize" "UnknownTable" false) (jq_9 : IsO K "BadSize" "BadRow" false) (jq_10 : IsO K "BadSize" "NotAscending" false) (jq_11 : IsO K "BadSize" "BadSize" true) (jq_12 : IsO K "BadSize" "KeyBroken" false) (jq_13 : IsO K "BadSize" "NotThere" false) (jq_14 : IsO K "BadSize" "AlreadyThere" false) (jq_15 : IsB K "BadSize" "ValueError" "ValueError" true) (jq_16 : IsO K "NotAscending" "UnknownTable" false) (jq_17 : IsO K "NotAscending" "BadRow" false) (jq_18 : IsO K "NotAscending" "NotAscending" true) (jq_19 : IsO K "NotAscending" "BadSize" false) (jq_20 : IsO K "NotAscending" "KeyBroken" false) (jq_21 : IsO K "NotAscending" "NotThere" false) (jq_22 : IsO K "NotAscending" "AlreadyThere" false) (jq_23 : IsB K "NotAscending" "ValueError" "ValueError" true) (jq_24 : IsO K "UnknownTable" "UnknownTable" true) (jq_25 : IsO K "UnknownTable" "BadRow" false) (jq_26 : IsO K "UnknownTable" "NotAscending" false) (jq_27 : IsO K "UnknownTable" "BadSize" false) (jq_28 : IsO K "UnknownTable" "KeyBroken" false) (jq_29 : IsO K "UnknownTable" "NotThere" false) (jq_30 : IsO K "UnknownTable" "AlreadyThere" false) (jq_31 : IsB K "UnknownTable" "ValueError" "ValueError" true) (jq_32 : IsO K "AlreadyThere" "UnknownTable" false) (jq_33 : IsO K "AlreadyThere" "BadRow" false) (jq_34 : IsO K "AlreadyThere" "NotAscending" false) (jq_35 : IsO K "AlreadyThere" "BadSize" false) (jq_36 : IsO K "AlreadyThere" "KeyBroken" false) (jq_37 : IsO K "AlreadyThere" "NotThere" false) (jq_38 : IsO K "AlreadyThere" "AlreadyThere" true) (jq_39 : IsB K "AlreadyThere" "ValueError" "ValueError" true) (jq_40 : IsO K "KeyBroken" "UnknownTable" false) (jq_41 : IsO K "KeyBroken" "BadRow" false) (jq_42 : IsO K "KeyBroken" "NotAscending" false) (jq_43 : IsO K "KeyBroken" "BadSize" false) (jq_44 : IsO K "KeyBroken" "KeyBroken" true) (jq_45 : IsO K "KeyBroken" "NotThere" false) (jq_46 : IsO K "KeyBroken" "AlreadyThere" false) (jq_47 : IsB K "KeyBroken" "ValueError" "ValueError" true) (jq_48 : IsO K "NotThere" "UnknownTable" false) (jq_49 : IsO K "NotThere" "BadRow" false) (jq_50 : IsO K "NotThere" "NotAscending" false) (jq_51 : IsO K "NotThere" "BadSize" false) (jq_52 : IsO K "NotThere" "KeyBroken" false) (jq_53 : IsO K "NotThere" "NotThere" true) (jq_54 : IsO K "NotThere" "AlreadyThere" false) (jq_55 : IsB K "NotThere" "ValueError" "ValueError" true) (cq_ViewError_BadRow : CtQ K "ViewError" "BadRow" true) (cq_ViewError_BadSize : CtQ K "ViewError" "BadSize" true) (cq_ViewError_NotAscending : CtQ K "ViewError" "NotAscending" true) (cq_ViewError_UnknownTable : CtQ K "ViewError" "UnknownTable" true) (cq_ViewError_AlreadyThere : CtQ K "ViewError" "AlreadyThere" true) (cq_ViewError_KeyBroken : CtQ K "ViewError" "KeyBroken" true) (cq_ViewError_NotThere : CtQ K "ViewError" "NotThere" true) (g_LETTERS : ∃ t, PySem.W.nsIn K mainGlobals "LETTERS" = some (some (.str "abcdefghijklmnopqrstuvwxyz0123456789" t))) (g_MOST_FACTS : ∃ t, PySem.W.nsIn K mainGlobals "MOST_FACTS" = some (some (.int 24 t))) (g_MOST_LETTERS : ∃ t, PySem.W.nsIn K mainGlobals "MOST_LETTERS" = some (some (.int 12 t))) (r_is_word : (recsOf q).find? (fun e => e.name == ("is_word" : Str)) = some dd_is_word) (t_is_word : PySem.W.tabIn K "is_word" = some (c_is_word, P_is_word)) (n_is_word : K.lookup P_is_word = none) (r_is_row : (recsOf q).find? (fun e => e.name == ("is_row" : Str)) = some dd_is_row) (t_is_row : PySem.W.tabIn K "is_row" = some (c_is_row, P_is_row)) (n_is_row : K.lookup P_is_row = none) :
    ∃ (fd : FuncData) (cs : List (Addr × Addr)), (∀ p ∈ cs, PySem.W.CodeHd h p.1 p.2 ∧ h.get? p.2 = some (PySem.W.tabObj #[])) ∧ (∀ p ∈ cs, K.lookup p.2 = none) ∧ (∀ (s : Shared) (u : Value), BindsTo s fd ⟨[u], []⟩ [("script", u)]) ∧ ∀ base : Heap, K.In base → base.Ns mainGlobals mg → (∀ p ∈ cs, GxR.TabB base mg p.1 p.2) → FnTop P w K mg base fa fd ["script"] (spLawT K (cs.map (·.2))) := by
  have kf_AlreadyThere : ∀ base : Heap, KnownX P w K mg base "AlreadyThere" ["fact"] := fun base => iq_AlreadyThere.known1 X G ms_AlreadyThere bm_AlreadyThere rfl (Or.inl rfl) (Or.inl rfl) (by decide) (by decide) 
  have kf_KeyBroken : ∀ base : Heap, KnownX P w K mg base "KeyBroken" ["first", "second"] := fun base => iq_KeyBroken.known2 X G ms_KeyBroken bm_KeyBroken rfl (Or.inl rfl) (Or.inl rfl) (Or.inl rfl) (by decide) (by decide) (by decide) (by decide) 
  have kf_NotThere : ∀ base : Heap, KnownX P w K mg base "NotThere" ["fact"] := fun base => iq_NotThere.known1 X G ms_NotThere bm_NotThere rfl (Or.inl rfl) (Or.inl rfl) (by decide) (by decide) 
  have q__law_draws : ∀ base : Heap, (∀ p ∈ [(c_is_word, P_is_word), (c_is_row, P_is_row)], GxR.TabB base mg p.1 p.2) → Known (TabList.mk (List.map (·.2) [(c_is_word, P_is_word), (c_is_row, P_is_row)]) P w) P w K mg base 1 "_law_draws" ["script", "count"] m__law_draws := fun base ht => kn__law_draws (PySem.W.mg_none_of X G y_int) (PySem.W.mg_none_of X G y_len) (PySem.W.mg_none_of X G y_range)   (d__law_draws.dfn X G bo__law_draws)
  have q__law_pool : ∀ base : Heap, (∀ p ∈ [(c_is_word, P_is_word), (c_is_row, P_is_row)], GxR.TabB base mg p.1 p.2) → Known (TabList.mk (List.map (·.2) [(c_is_word, P_is_word), (c_is_row, P_is_row)]) P w) P w K mg base 1 "_law_pool" ["first", "second", "many"] m__law_pool := fun base ht => kn__law_pool (PySem.W.mg_none_of X G y_int) (PySem.W.mg_none_of X G y_range)   (d__law_pool.dfn X G bo__law_pool)
  have q__law_schema : ∀ base : Heap, (∀ p ∈ [(c_is_word, P_is_word), (c_is_row, P_is_row)], GxR.TabB base mg p.1 p.2) → Known (TabList.mk (List.map (·.2) [(c_is_word, P_is_word), (c_is_row, P_is_row)]) P w) P w K mg base 1 "_law_schema" ["draws", "pool"] m__law_schema := fun base ht => kn__law_schema (PySem.W.mg_none_of X G y_int) (PySem.W.mg_none_of X G y_range)   (d__law_schema.dfn X G bo__law_schema)
  have q__law_place : ∀ base : Heap, (∀ p ∈ [(c_is_word, P_is_word), (c_is_row, P_is_row)], GxR.TabB base mg p.1 p.2) → Known (TabList.mk (List.map (·.2) [(c_is_word, P_is_word), (c_is_row, P_is_row)]) P w) P w K mg base 1 "_law_place" ["schema", "name"] m__law_place := fun base ht => kn__law_place (PySem.W.mg_none_of X G y_len) (PySem.W.mg_none_of X G y_range)   (d__law_place.dfn X G bo__law_place)
  have q__law_ascending : ∀ base : Heap, (∀ p ∈ [(c_is_word, P_is_word), (c_is_row, P_is_row)], GxR.TabB base mg p.1 p.2) → Known (TabList.mk (List.map (·.2) [(c_is_word, P_is_word), (c_is_row, P_is_row)]) P w) P w K mg base 2 "_law_ascending" ["schema", "facts"] m__law_ascending := fun base ht => kn__law_ascending (PySem.W.mg_none_of X G y_sorted)  (q__law_place base ht) (d__law_ascending.dfn X G bo__law_ascending)
  have q__law_fact : ∀ base : Heap, (∀ p ∈ [(c_is_word, P_is_word), (c_is_row, P_is_row)], GxR.TabB base mg p.1 p.2) → Known (TabList.mk (List.map (·.2) [(c_is_word, P_is_word), (c_is_row, P_is_row)]) P w) P w K mg base 1 "_law_fact" ["schema", "words", "draws"] m__law_fact := fun base ht => kn__law_fact (PySem.W.mg_none_of X G y_int) (PySem.W.mg_none_of X G y_len) (PySem.W.mg_none_of X G y_range) (PySem.W.mg_none_of X G y_tuple)   (d__law_fact.dfn X G bo__law_fact)
  have q__law_facts : ∀ base : Heap, (∀ p ∈ [(c_is_word, P_is_word), (c_is_row, P_is_row)], GxR.TabB base mg p.1 p.2) → Known (TabList.mk (List.map (·.2) [(c_is_word, P_is_word), (c_is_row, P_is_row)]) P w) P w K mg base 2 "_law_facts" ["schema", "words", "draws", "many"] m__law_facts := fun base ht => kn__law_facts (PySem.W.mg_none_of X G y_range)  (q__law_fact base ht) (d__law_facts.dfn X G bo__law_facts)
  have q__law_spoilt : ∀ base : Heap, (∀ p ∈ [(c_is_word, P_is_word), (c_is_row, P_is_row)], GxR.TabB base mg p.1 p.2) → Known (TabList.mk (List.map (·.2) [(c_is_word, P_is_word), (c_is_row, P_is_row)]) P w) P w K mg base 1 "_law_spoilt" ["schema", "words", "facts", "draws"] m__law_spoilt := fun base ht => kn__law_spoilt (PySem.W.mg_none_of X G y_int) (PySem.W.mg_none_of X G y_len) (PySem.W.mg_none_of X G y_list)   (d__law_spoilt.dfn X G bo__law_spoilt)
  have q_place_of : ∀ base : Heap, (∀ p ∈ [(c_is_word, P_is_word), (c_is_row, P_is_row)], GxR.TabB base mg p.1 p.2) → Known (TabList.mk (List.map (·.2) [(c_is_word, P_is_word), (c_is_row, P_is_row)]) P w) P w K mg base 1 "place_of" ["schema", "name"] m_place_of := fun base ht => kn_place_of (PySem.W.mg_none_of X G y_enumerate)   (d_place_of.dfn X G bo_place_of)
  have q_is_word : ∀ base : Heap, (∀ p ∈ [(c_is_word, P_is_word), (c_is_row, P_is_row)], GxR.TabB base mg p.1 p.2) → Known (TabList.mk (List.map (·.2) [(c_is_word, P_is_word), (c_is_row, P_is_row)]) P w) P w K mg base 2 "is_word" ["value"] m_is_word := fun base ht => kn_is_word (ht (c_is_word, P_is_word) List.mem_cons_self) List.mem_cons_self (PySem.W.mg_none_of X G y_all) (PySem.W.mg_none_of X G y_isinstance) (PySem.W.mg_none_of X G y_len) (PySem.W.mg_none_of X G y_str) (gstr_of X G g_LETTERS) (gint_of X G g_MOST_LETTERS)  (d_is_word.dfn X G bo_is_word)
  have q_is_row : ∀ base : Heap, (∀ p ∈ [(c_is_word, P_is_word), (c_is_row, P_is_row)], GxR.TabB base mg p.1 p.2) → Known (TabList.mk (List.map (·.2) [(c_is_word, P_is_word), (c_is_row, P_is_row)]) P w) P w K mg base 4 "is_row" ["value", "width"] m_is_row := fun base ht => kn_is_row (ht (c_is_row, P_is_row) (List.mem_cons_of_mem _ List.mem_cons_self)) (List.mem_cons_of_mem _ List.mem_cons_self) (PySem.W.mg_none_of X G y_all) (PySem.W.mg_none_of X G y_len)  (q_is_word base ht) (d_is_row.dfn X G bo_is_row)
  have q_check_facts : ∀ base : Heap, (∀ p ∈ [(c_is_word, P_is_word), (c_is_row, P_is_row)], GxR.TabB base mg p.1 p.2) → Known (TabList.mk (List.map (·.2) [(c_is_word, P_is_word), (c_is_row, P_is_row)]) P w) P w K mg base 5 "check_facts" ["schema", "facts"] m_check_facts := fun base ht => kn_check_facts   (q_is_row base ht) (q_place_of base ht) (exC_of X G xq_BadRow) (exC_of X G xq_NotAscending) (exC_of X G xq_UnknownTable) (d_check_facts.dfn X G bo_check_facts)
  have q_key_of : ∀ base : Heap, (∀ p ∈ [(c_is_word, P_is_word), (c_is_row, P_is_row)], GxR.TabB base mg p.1 p.2) → Known (TabList.mk (List.map (·.2) [(c_is_word, P_is_word), (c_is_row, P_is_row)]) P w) P w K mg base 2 "key_of" ["schema", "fact"] m_key_of := fun base ht => kn_key_of   (q_place_of base ht) (d_key_of.dfn X G bo_key_of)
  have q_key_clashes : ∀ base : Heap, (∀ p ∈ [(c_is_word, P_is_word), (c_is_row, P_is_row)], GxR.TabB base mg p.1 p.2) → Known (TabList.mk (List.map (·.2) [(c_is_word, P_is_word), (c_is_row, P_is_row)]) P w) P w K mg base 3 "key_clashes" ["schema", "facts"] m_key_clashes := fun base ht => kn_key_clashes   (q_key_of base ht) (d_key_clashes.dfn X G bo_key_clashes)
  have q_check_database : ∀ base : Heap, (∀ p ∈ [(c_is_word, P_is_word), (c_is_row, P_is_row)], GxR.TabB base mg p.1 p.2) → Known (TabList.mk (List.map (·.2) [(c_is_word, P_is_word), (c_is_row, P_is_row)]) P w) P w K mg base 6 "check_database" ["schema", "database"] m_check_database := fun base ht => kn_check_database (PySem.W.mg_none_of X G y_len) (gint_of X G g_MOST_FACTS) (q_check_facts base ht) (q_key_clashes base ht) (exC_of X G xq_BadSize) (kf_KeyBroken base) (d_check_database.dfn X G bo_check_database)
  have q_check_change : ∀ base : Heap, (∀ p ∈ [(c_is_word, P_is_word), (c_is_row, P_is_row)], GxR.TabB base mg p.1 p.2) → Known (TabList.mk (List.map (·.2) [(c_is_word, P_is_word), (c_is_row, P_is_row)]) P w) P w K mg base 6 "check_change" ["schema", "database", "change"] m_check_change := fun base ht => kn_check_change (PySem.W.mg_none_of X G y_set)  (q_check_facts base ht) (kf_AlreadyThere base) (kf_NotThere base) (d_check_change.dfn X G bo_check_change)
  have e__law_class : ∀ base : Heap, KnownE (TabList.mk (List.map (·.2) [(c_is_word, P_is_word), (c_is_row, P_is_row)]) P w) P w K mg base 1 "_law_class" "e" m__law_class := fun base => ke__law_class (PySem.W.mg_none_of X G y_ValueError) (PySem.W.mg_none_of X G y_isinstance) (PySem.W.mg_none_of X G y_len)   (isT_cons (isO_of X G jq_0) (isT_cons (isO_of X G jq_1) (isT_cons (isO_of X G jq_2) (isT_cons (isO_of X G jq_3) (isT_cons (isO_of X G jq_4) (isT_cons (isO_of X G jq_5) (isT_cons (isO_of X G jq_6) (isT_cons (isB_of X G jq_7 (by rfl) (by decide +kernel) (by decide)) (isT_cons (isO_of X G jq_8) (isT_cons (isO_of X G jq_9) (isT_cons (isO_of X G jq_10) (isT_cons (isO_of X G jq_11) (isT_cons (isO_of X G jq_12) (isT_cons (isO_of X G jq_13) (isT_cons (isO_of X G jq_14) (isT_cons (isB_of X G jq_15 (by rfl) (by decide +kernel) (by decide)) (isT_cons (isO_of X G jq_16) (isT_cons (isO_of X G jq_17) (isT_cons (isO_of X G jq_18) (isT_cons (isO_of X G jq_19) (isT_cons (isO_of X G jq_20) (isT_cons (isO_of X G jq_21) (isT_cons (isO_of X G jq_22) (isT_cons (isB_of X G jq_23 (by rfl) (by decide +kernel) (by decide)) (isT_cons (isO_of X G jq_24) (isT_cons (isO_of X G jq_25) (isT_cons (isO_of X G jq_26) (isT_cons (isO_of X G jq_27) (isT_cons (isO_of X G jq_28) (isT_cons (isO_of X G jq_29) (isT_cons (isO_of X G jq_30) (isT_cons (isB_of X G jq_31 (by rfl) (by decide +kernel) (by decide)) (isT_cons (isO_of X G jq_32) (isT_cons (isO_of X G jq_33) (isT_cons (isO_of X G jq_34) (isT_cons (isO_of X G jq_35) (isT_cons (isO_of X G jq_36) (isT_cons (isO_of X G jq_37) (isT_cons (isO_of X G jq_38) (isT_cons (isB_of X G jq_39 (by rfl) (by decide +kernel) (by decide)) (isT_cons (isO_of X G jq_40) (isT_cons (isO_of X G jq_41) (isT_cons (isO_of X G jq_42) (isT_cons (isO_of X G jq_43) (isT_cons (isO_of X G jq_44) (isT_cons (isO_of X G jq_45) (isT_cons (isO_of X G jq_46) (isT_cons (isB_of X G jq_47 (by rfl) (by decide +kernel) (by decide)) (isT_cons (isO_of X G jq_48) (isT_cons (isO_of X G jq_49) (isT_cons (isO_of X G jq_50) (isT_cons (isO_of X G jq_51) (isT_cons (isO_of X G jq_52) (isT_cons (isO_of X G jq_53) (isT_cons (isO_of X G jq_54) (isT_cons (isB_of X G jq_55 (by rfl) (by decide +kernel) (by decide)) isT_nil)))))))))))))))))))))))))))))))))))))))))))))))))))))))) (xfT_cons X G xfq_0 (xfT_cons X G xfq_1 (xfT_cons X G xfq_2 (xfT_cons X G xfq_3 xfT_nil)))) (d__law_class.dfn X G bo__law_class)
  have q__law_told : ∀ base : Heap, (∀ p ∈ [(c_is_word, P_is_word), (c_is_row, P_is_row)], GxR.TabB base mg p.1 p.2) → Known (TabList.mk (List.map (·.2) [(c_is_word, P_is_word), (c_is_row, P_is_row)]) P w) P w K mg base 7 "_law_told" ["which", "schema", "database", "change"] m__law_told := fun base ht => kn__law_told   (q_check_change base ht) (q_check_database base ht) (q_check_facts base ht) (e__law_class base) (ctT_cons X G cq_ViewError_BadRow (ctT_cons X G cq_ViewError_BadSize (ctT_cons X G cq_ViewError_NotAscending (ctT_cons X G cq_ViewError_UnknownTable (ctT_cons X G cq_ViewError_AlreadyThere (ctT_cons X G cq_ViewError_KeyBroken (ctT_one X G cq_ViewError_NotThere))))))) (d__law_told.dfn X G bo__law_told)
  have q__law_is_word : ∀ base : Heap, (∀ p ∈ [(c_is_word, P_is_word), (c_is_row, P_is_row)], GxR.TabB base mg p.1 p.2) → Known (TabList.mk (List.map (·.2) [(c_is_word, P_is_word), (c_is_row, P_is_row)]) P w) P w K mg base 1 "_law_is_word" ["word"] m__law_is_word := fun base ht => kn__law_is_word (PySem.W.mg_none_of X G y_all) (PySem.W.mg_none_of X G y_isinstance) (PySem.W.mg_none_of X G y_len) (PySem.W.mg_none_of X G y_str)   (d__law_is_word.dfn X G bo__law_is_word)
  have q__law_facts_due : ∀ base : Heap, (∀ p ∈ [(c_is_word, P_is_word), (c_is_row, P_is_row)], GxR.TabB base mg p.1 p.2) → Known (TabList.mk (List.map (·.2) [(c_is_word, P_is_word), (c_is_row, P_is_row)]) P w) P w K mg base 2 "_law_facts_due" ["schema", "facts"] m__law_facts_due := fun base ht => kn__law_facts_due (PySem.W.mg_none_of X G y_all) (PySem.W.mg_none_of X G y_len)  (q__law_is_word base ht) (q__law_place base ht) (d__law_facts_due.dfn X G bo__law_facts_due)
  have q__law_same_key : ∀ base : Heap, (∀ p ∈ [(c_is_word, P_is_word), (c_is_row, P_is_row)], GxR.TabB base mg p.1 p.2) → Known (TabList.mk (List.map (·.2) [(c_is_word, P_is_word), (c_is_row, P_is_row)]) P w) P w K mg base 1 "_law_same_key" ["schema", "first", "second"] m__law_same_key := fun base ht => kn__law_same_key    (d__law_same_key.dfn X G bo__law_same_key)
  have q__law_database_due : ∀ base : Heap, (∀ p ∈ [(c_is_word, P_is_word), (c_is_row, P_is_row)], GxR.TabB base mg p.1 p.2) → Known (TabList.mk (List.map (·.2) [(c_is_word, P_is_word), (c_is_row, P_is_row)]) P w) P w K mg base 3 "_law_database_due" ["schema", "facts"] m__law_database_due := fun base ht => kn__law_database_due (PySem.W.mg_none_of X G y_len) (PySem.W.mg_none_of X G y_range)  (q__law_facts_due base ht) (q__law_same_key base ht) (d__law_database_due.dfn X G bo__law_database_due)
  have q__law_asked : ∀ base : Heap, (∀ p ∈ [(c_is_word, P_is_word), (c_is_row, P_is_row)], GxR.TabB base mg p.1 p.2) → Known (TabList.mk (List.map (·.2) [(c_is_word, P_is_word), (c_is_row, P_is_row)]) P w) P w K mg base 8 "_law_asked" ["schema", "facts"] m__law_asked := fun base ht => kn__law_asked (PySem.W.mg_none_of X G y_list)  (q__law_database_due base ht) (q__law_facts_due base ht) (q__law_told base ht) (d__law_asked.dfn X G bo__law_asked)
  have q__law_database : ∀ base : Heap, (∀ p ∈ [(c_is_word, P_is_word), (c_is_row, P_is_row)], GxR.TabB base mg p.1 p.2) → Known (TabList.mk (List.map (·.2) [(c_is_word, P_is_word), (c_is_row, P_is_row)]) P w) P w K mg base 3 "_law_database" ["schema", "words", "draws", "many"] m__law_database := fun base ht => kn__law_database (PySem.W.mg_none_of X G y_any)  (q__law_ascending base ht) (q__law_facts base ht) (q__law_same_key base ht) (d__law_database.dfn X G bo__law_database)
  have q__law_change_due : ∀ base : Heap, (∀ p ∈ [(c_is_word, P_is_word), (c_is_row, P_is_row)], GxR.TabB base mg p.1 p.2) → Known (TabList.mk (List.map (·.2) [(c_is_word, P_is_word), (c_is_row, P_is_row)]) P w) P w K mg base 3 "_law_change_due" ["schema", "database", "change"] m__law_change_due := fun base ht => kn__law_change_due   (q__law_facts_due base ht) (d__law_change_due.dfn X G bo__law_change_due)
  exact law_finG (k := 8) (cs := [(c_is_word, P_is_word), (c_is_row, P_is_row)]) X G hfa d_law bo_law (fun p hp => by simp only [List.mem_cons, List.not_mem_nil, or_false] at hp; rcases hp with rfl | rfl <;> first | exact tabs _ _ _ _ r_is_word t_is_word | exact tabs _ _ _ _ r_is_row t_is_row) (fun p hp => by simp only [List.mem_cons, List.not_mem_nil, or_false] at hp; rcases hp with rfl | rfl <;> first | exact n_is_word | exact n_is_row) sc_law ⟨rfl, by decide, by decide⟩ (fun base ht f cdv s H E hr => fk_law (base := base) (PySem.W.mg_none_of X G y_int) (PySem.W.mg_none_of X G y_len) (PySem.W.mg_none_of X G y_list) (PySem.W.mg_none_of X G y_sorted)  (q__law_ascending base ht) (q__law_asked base ht) (q__law_change_due base ht) (q__law_database base ht) (q__law_draws base ht) (q__law_facts base ht) (q__law_pool base ht) (q__law_schema base ht) (q__law_spoilt base ht) (q__law_told base ht) f cdv s H E hr) (fun ns h => by show Res.All _ (m_law [scriptD ns]); rw [law_true ns h]; exact rfl)
end K03
open PySem PySem.W PyProof.Rows
set_option maxHeartbeats 0 in
theorem PySem.Challenge.cw_wishshown_k03_facts_and_databases_holds : PySem.Challenge.rw_wishshown_k03_facts_and_databases.Holds := by
  w_on; o_law; k_head; (case hw => w_witness2)
  k_fill
  refine Pyr.law_endG (l := PySem.Challenge.rw_wishshown_k03_facts_and_databases) (x := "script") rfl rfl (fun w h Y => PySem.W.kIn_of Y) ?F
  case F =>
    intro w mg fa h KX G hmg tabs
    refine' K03.ends KX G hmg tabs ?vd0 ?vd1 ?vd2 ?vd3 ?vd4 ?vd5 ?vd6 ?vd7 ?vd8 ?vd9 ?vd10 ?vd11 ?vd12 ?vd13 ?vd14 ?vd15 ?vd16 ?vd17 ?vd18 ?vd19 ?vd20 ?vd21 ?vd22 ?vd23 ?vd24 ?vd25 ?vy0 ?vy1 ?vy2 ?vy3 ?vy4 ?vy5 ?vy6 ?vy7 ?vy8 ?vy9 ?vy10 ?vy11 ?vy12 ?vx0 ?vx1 ?vx2 ?vx3 ?vi0 ?vi1 ?vi2 ?vf0 ?vf1 ?vf2 ?vf3 ?vj0 ?vj1 ?vj2 ?vj3 ?vj4 ?vj5 ?vj6 ?vj7 ?vj8 ?vj9 ?vj10 ?vj11 ?vj12 ?vj13 ?vj14 ?vj15 ?vj16 ?vj17 ?vj18 ?vj19 ?vj20 ?vj21 ?vj22 ?vj23 ?vj24 ?vj25 ?vj26 ?vj27 ?vj28 ?vj29 ?vj30 ?vj31 ?vj32 ?vj33 ?vj34 ?vj35 ?vj36 ?vj37 ?vj38 ?vj39 ?vj40 ?vj41 ?vj42 ?vj43 ?vj44 ?vj45 ?vj46 ?vj47 ?vj48 ?vj49 ?vj50 ?vj51 ?vj52 ?vj53 ?vj54 ?vj55 ?vc0 ?vc1 ?vc2 ?vc3 ?vc4 ?vc5 ?vc6 ?vg0 ?vg1 ?vg2 ?vr0 ?vt0 ?vn0 ?vr1 ?vt1 ?vn1
    (case vd0 => exact ⟨_, _, _, _, _, _, _, _, _, _, by k_is, by k_is, by k_is, by k_is⟩)
    (case vd1 => exact ⟨_, _, _, _, _, _, _, _, _, _, by k_is, by k_is, by k_is, by k_is⟩)
    (case vd2 => exact ⟨_, _, _, _, _, _, _, _, _, _, by k_is, by k_is, by k_is, by k_is⟩)
    (case vd3 => exact ⟨_, _, _, _, _, _, _, _, _, _, by k_is, by k_is, by k_is, by k_is⟩)
    (case vd4 => exact ⟨_, _, _, _, _, _, _, _, _, _, by k_is, by k_is, by k_is, by k_is⟩)
    (case vd5 => exact ⟨_, _, _, _, _, _, _, _, _, _, by k_is, by k_is, by k_is, by k_is⟩)
    (case vd6 => exact ⟨_, _, _, _, _, _, _, _, _, _, by k_is, by k_is, by k_is, by k_is⟩)
    (case vd7 => exact ⟨_, _, _, _, _, _, _, _, _, _, by k_is, by k_is, by k_is, by k_is⟩)
    (case vd8 => exact ⟨_, _, _, _, _, _, _, _, _, _, by k_is, by k_is, by k_is, by k_is⟩)
    (case vd9 => exact ⟨_, _, _, _, _, _, _, _, _, by k_is, by k_is, by k_is, by k_is⟩)
    (case vd10 => exact ⟨_, _, _, _, _, _, _, _, _, by k_is, by k_is, by k_is, by k_is⟩)
    (case vd11 => exact ⟨_, _, _, _, _, _, _, _, _, _, by k_is, by k_is, by k_is, by k_is⟩)
    (case vd12 => exact ⟨_, _, _, _, _, _, _, _, _, _, by k_is, by k_is, by k_is, by k_is⟩)
    (case vd13 => exact ⟨_, _, _, _, _, _, _, _, _, _, by k_is, by k_is, by k_is, by k_is⟩)
    (case vd14 => exact ⟨_, _, _, _, _, _, _, _, _, _, by k_is, by k_is, by k_is, by k_is⟩)
    (case vd15 => exact ⟨_, _, _, _, _, _, _, _, _, _, by k_is, by k_is, by k_is, by k_is⟩)
    (case vd16 => exact ⟨_, _, _, _, _, _, _, _, _, _, by k_is, by k_is, by k_is, by k_is⟩)
    (case vd17 => exact ⟨_, _, _, _, _, _, _, _, _, _, by k_is, by k_is, by k_is, by k_is⟩)
    (case vd18 => exact ⟨_, _, _, _, _, _, _, _, _, _, by k_is, by k_is, by k_is, by k_is⟩)
    (case vd19 => exact ⟨_, _, _, _, _, _, _, _, _, _, by k_is, by k_is, by k_is, by k_is⟩)
    (case vd20 => exact ⟨_, _, _, _, _, _, _, _, _, _, by k_is, by k_is, by k_is, by k_is⟩)
    (case vd21 => exact ⟨_, _, _, _, _, _, _, _, _, _, by k_is, by k_is, by k_is, by k_is⟩)
    (case vd22 => exact ⟨_, _, _, _, _, _, _, _, _, _, by k_is, by k_is, by k_is, by k_is⟩)
    (case vd23 => exact ⟨_, _, _, _, _, _, _, _, _, _, by k_is, by k_is, by k_is, by k_is⟩)
    (case vd24 => exact ⟨_, _, _, _, _, _, _, _, _, _, by k_is, by k_is, by k_is, by k_is⟩)
    (case vd25 => exact ⟨_, _, _, _, _, _, _, _, _, _, by k_is, by k_is, by k_is, by k_is⟩)
    (case vy0 => k_is)
    (case vy1 => k_is)
    (case vy2 => k_is)
    (case vy3 => k_is)
    (case vy4 => k_is)
    (case vy5 => k_is)
    (case vy6 => k_is)
    (case vy7 => k_is)
    (case vy8 => k_is)
    (case vy9 => k_is)
    (case vy10 => k_is)
    (case vy11 => k_is)
    (case vy12 => k_is)
    (case vx0 => exact ⟨_, by k_is, by k_exc, by k_is, by k_is, by k_is⟩)
    (case vx1 => exact ⟨_, by k_is, by k_exc, by k_is, by k_is, by k_is⟩)
    (case vx2 => exact ⟨_, by k_is, by k_exc, by k_is, by k_is, by k_is⟩)
    (case vx3 => exact ⟨_, by k_is, by k_exc, by k_is, by k_is, by k_is⟩)
    (case vi0 => exact ⟨_, _, _, _, _, _, _, _, _, _, _, by k_is, ⟨⟨_, _, _, _, _, _, _, _, _, _, _, _, _, _, _, by k_is, rfl⟩, by k_is, by k_is, by k_is, by k_is⟩, by k_is, by k_is, by k_is, by k_is, by k_is, by k_is, trivial⟩)
    (case vi1 => exact ⟨_, _, _, _, _, _, _, _, _, _, _, by k_is, ⟨⟨_, _, _, _, _, _, _, _, _, _, _, _, _, _, _, by k_is, rfl⟩, by k_is, by k_is, by k_is, by k_is⟩, by k_is, by k_is, by k_is, by k_is, by k_is, by k_is, by k_is, trivial⟩)
    (case vi2 => exact ⟨_, _, _, _, _, _, _, _, _, _, _, by k_is, ⟨⟨_, _, _, _, _, _, _, _, _, _, _, _, _, _, _, by k_is, rfl⟩, by k_is, by k_is, by k_is, by k_is⟩, by k_is, by k_is, by k_is, by k_is, by k_is, by k_is, trivial⟩)
    (case vf0 => exact ⟨_, by k_is, ⟨by k_is, by k_is, by k_is, by k_is⟩, by k_is⟩)
    (case vf1 => exact ⟨_, by k_is, ⟨by k_is, by k_is, by k_is, by k_is⟩, by k_is⟩)
    (case vf2 => exact ⟨_, by k_is, ⟨by k_is, by k_is, by k_is, by k_is⟩, by k_is⟩)
    (case vf3 => exact ⟨_, by k_is, ⟨by k_is, by k_is, by k_is, by k_is⟩, by k_is⟩)
    (case vj0 => exact ⟨_, _, by k_is, ⟨by k_is, by k_is, by k_is, by k_is, by k_is, by k_is, by k_is, by k_is⟩, by k_is, by first | k_is | rfl, by k_is, by k_is, by first | k_is | rfl⟩)
    (case vj1 => exact ⟨_, _, by k_is, ⟨by k_is, by k_is, by k_is, by k_is, by k_is, by k_is, by k_is, by k_is⟩, by k_is, by first | k_is | rfl, by k_is, by k_is, by first | k_is | rfl⟩)
    (case vj2 => exact ⟨_, _, by k_is, ⟨by k_is, by k_is, by k_is, by k_is, by k_is, by k_is, by k_is, by k_is⟩, by k_is, by first | k_is | rfl, by k_is, by k_is, by first | k_is | rfl⟩)
    (case vj3 => exact ⟨_, _, by k_is, ⟨by k_is, by k_is, by k_is, by k_is, by k_is, by k_is, by k_is, by k_is⟩, by k_is, by first | k_is | rfl, by k_is, by k_is, by first | k_is | rfl⟩)
    (case vj4 => exact ⟨_, _, by k_is, ⟨by k_is, by k_is, by k_is, by k_is, by k_is, by k_is, by k_is, by k_is⟩, by k_is, by first | k_is | rfl, by k_is, by k_is, by first | k_is | rfl⟩)
    (case vj5 => exact ⟨_, _, by k_is, ⟨by k_is, by k_is, by k_is, by k_is, by k_is, by k_is, by k_is, by k_is⟩, by k_is, by first | k_is | rfl, by k_is, by k_is, by first | k_is | rfl⟩)
    (case vj6 => exact ⟨_, _, by k_is, ⟨by k_is, by k_is, by k_is, by k_is, by k_is, by k_is, by k_is, by k_is⟩, by k_is, by first | k_is | rfl, by k_is, by k_is, by first | k_is | rfl⟩)
    (case vj7 => exact ⟨_, by k_is, ⟨by k_is, by k_is, by k_is, by k_is, by k_is, by k_is, by k_is, by k_is⟩, by k_is, by first | k_is | rfl⟩)
    (case vj8 => exact ⟨_, _, by k_is, ⟨by k_is, by k_is, by k_is, by k_is, by k_is, by k_is, by k_is, by k_is⟩, by k_is, by first | k_is | rfl, by k_is, by k_is, by first | k_is | rfl⟩)
    (case vj9 => exact ⟨_, _, by k_is, ⟨by k_is, by k_is, by k_is, by k_is, by k_is, by k_is, by k_is, by k_is⟩, by k_is, by first | k_is | rfl, by k_is, by k_is, by first | k_is | rfl⟩)
    (case vj10 => exact ⟨_, _, by k_is, ⟨by k_is, by k_is, by k_is, by k_is, by k_is, by k_is, by k_is, by k_is⟩, by k_is, by first | k_is | rfl, by k_is, by k_is, by first | k_is | rfl⟩)
    (case vj11 => exact ⟨_, _, by k_is, ⟨by k_is, by k_is, by k_is, by k_is, by k_is, by k_is, by k_is, by k_is⟩, by k_is, by first | k_is | rfl, by k_is, by k_is, by first | k_is | rfl⟩)
    (case vj12 => exact ⟨_, _, by k_is, ⟨by k_is, by k_is, by k_is, by k_is, by k_is, by k_is, by k_is, by k_is⟩, by k_is, by first | k_is | rfl, by k_is, by k_is, by first | k_is | rfl⟩)
    (case vj13 => exact ⟨_, _, by k_is, ⟨by k_is, by k_is, by k_is, by k_is, by k_is, by k_is, by k_is, by k_is⟩, by k_is, by first | k_is | rfl, by k_is, by k_is, by first | k_is | rfl⟩)
    (case vj14 => exact ⟨_, _, by k_is, ⟨by k_is, by k_is, by k_is, by k_is, by k_is, by k_is, by k_is, by k_is⟩, by k_is, by first | k_is | rfl, by k_is, by k_is, by first | k_is | rfl⟩)
    (case vj15 => exact ⟨_, by k_is, ⟨by k_is, by k_is, by k_is, by k_is, by k_is, by k_is, by k_is, by k_is⟩, by k_is, by first | k_is | rfl⟩)
    (case vj16 => exact ⟨_, _, by k_is, ⟨by k_is, by k_is, by k_is, by k_is, by k_is, by k_is, by k_is, by k_is⟩, by k_is, by first | k_is | rfl, by k_is, by k_is, by first | k_is | rfl⟩)
    (case vj17 => exact ⟨_, _, by k_is, ⟨by k_is, by k_is, by k_is, by k_is, by k_is, by k_is, by k_is, by k_is⟩, by k_is, by first | k_is | rfl, by k_is, by k_is, by first | k_is | rfl⟩)
    (case vj18 => exact ⟨_, _, by k_is, ⟨by k_is, by k_is, by k_is, by k_is, by k_is, by k_is, by k_is, by k_is⟩, by k_is, by first | k_is | rfl, by k_is, by k_is, by first | k_is | rfl⟩)
    (case vj19 => exact ⟨_, _, by k_is, ⟨by k_is, by k_is, by k_is, by k_is, by k_is, by k_is, by k_is, by k_is⟩, by k_is, by first | k_is | rfl, by k_is, by k_is, by first | k_is | rfl⟩)
    (case vj20 => exact ⟨_, _, by k_is, ⟨by k_is, by k_is, by k_is, by k_is, by k_is, by k_is, by k_is, by k_is⟩, by k_is, by first | k_is | rfl, by k_is, by k_is, by first | k_is | rfl⟩)
    (case vj21 => exact ⟨_, _, by k_is, ⟨by k_is, by k_is, by k_is, by k_is, by k_is, by k_is, by k_is, by k_is⟩, by k_is, by first | k_is | rfl, by k_is, by k_is, by first | k_is | rfl⟩)
    (case vj22 => exact ⟨_, _, by k_is, ⟨by k_is, by k_is, by k_is, by k_is, by k_is, by k_is, by k_is, by k_is⟩, by k_is, by first | k_is | rfl, by k_is, by k_is, by first | k_is | rfl⟩)
    (case vj23 => exact ⟨_, by k_is, ⟨by k_is, by k_is, by k_is, by k_is, by k_is, by k_is, by k_is, by k_is⟩, by k_is, by first | k_is | rfl⟩)
    (case vj24 => exact ⟨_, _, by k_is, ⟨by k_is, by k_is, by k_is, by k_is, by k_is, by k_is, by k_is, by k_is⟩, by k_is, by first | k_is | rfl, by k_is, by k_is, by first | k_is | rfl⟩)
    (case vj25 => exact ⟨_, _, by k_is, ⟨by k_is, by k_is, by k_is, by k_is, by k_is, by k_is, by k_is, by k_is⟩, by k_is, by first | k_is | rfl, by k_is, by k_is, by first | k_is | rfl⟩)
    (case vj26 => exact ⟨_, _, by k_is, ⟨by k_is, by k_is, by k_is, by k_is, by k_is, by k_is, by k_is, by k_is⟩, by k_is, by first | k_is | rfl, by k_is, by k_is, by first | k_is | rfl⟩)
    (case vj27 => exact ⟨_, _, by k_is, ⟨by k_is, by k_is, by k_is, by k_is, by k_is, by k_is, by k_is, by k_is⟩, by k_is, by first | k_is | rfl, by k_is, by k_is, by first | k_is | rfl⟩)
    (case vj28 => exact ⟨_, _, by k_is, ⟨by k_is, by k_is, by k_is, by k_is, by k_is, by k_is, by k_is, by k_is⟩, by k_is, by first | k_is | rfl, by k_is, by k_is, by first | k_is | rfl⟩)
    (case vj29 => exact ⟨_, _, by k_is, ⟨by k_is, by k_is, by k_is, by k_is, by k_is, by k_is, by k_is, by k_is⟩, by k_is, by first | k_is | rfl, by k_is, by k_is, by first | k_is | rfl⟩)
    (case vj30 => exact ⟨_, _, by k_is, ⟨by k_is, by k_is, by k_is, by k_is, by k_is, by k_is, by k_is, by k_is⟩, by k_is, by first | k_is | rfl, by k_is, by k_is, by first | k_is | rfl⟩)
    (case vj31 => exact ⟨_, by k_is, ⟨by k_is, by k_is, by k_is, by k_is, by k_is, by k_is, by k_is, by k_is⟩, by k_is, by first | k_is | rfl⟩)
    (case vj32 => exact ⟨_, _, by k_is, ⟨by k_is, by k_is, by k_is, by k_is, by k_is, by k_is, by k_is, by k_is⟩, by k_is, by first | k_is | rfl, by k_is, by k_is, by first | k_is | rfl⟩)
    (case vj33 => exact ⟨_, _, by k_is, ⟨by k_is, by k_is, by k_is, by k_is, by k_is, by k_is, by k_is, by k_is⟩, by k_is, by first | k_is | rfl, by k_is, by k_is, by first | k_is | rfl⟩)
    (case vj34 => exact ⟨_, _, by k_is, ⟨by k_is, by k_is, by k_is, by k_is, by k_is, by k_is, by k_is, by k_is⟩, by k_is, by first | k_is | rfl, by k_is, by k_is, by first | k_is | rfl⟩)
    (case vj35 => exact ⟨_, _, by k_is, ⟨by k_is, by k_is, by k_is, by k_is, by k_is, by k_is, by k_is, by k_is⟩, by k_is, by first | k_is | rfl, by k_is, by k_is, by first | k_is | rfl⟩)
    (case vj36 => exact ⟨_, _, by k_is, ⟨by k_is, by k_is, by k_is, by k_is, by k_is, by k_is, by k_is, by k_is⟩, by k_is, by first | k_is | rfl, by k_is, by k_is, by first | k_is | rfl⟩)
    (case vj37 => exact ⟨_, _, by k_is, ⟨by k_is, by k_is, by k_is, by k_is, by k_is, by k_is, by k_is, by k_is⟩, by k_is, by first | k_is | rfl, by k_is, by k_is, by first | k_is | rfl⟩)
    (case vj38 => exact ⟨_, _, by k_is, ⟨by k_is, by k_is, by k_is, by k_is, by k_is, by k_is, by k_is, by k_is⟩, by k_is, by first | k_is | rfl, by k_is, by k_is, by first | k_is | rfl⟩)
    (case vj39 => exact ⟨_, by k_is, ⟨by k_is, by k_is, by k_is, by k_is, by k_is, by k_is, by k_is, by k_is⟩, by k_is, by first | k_is | rfl⟩)
    (case vj40 => exact ⟨_, _, by k_is, ⟨by k_is, by k_is, by k_is, by k_is, by k_is, by k_is, by k_is, by k_is⟩, by k_is, by first | k_is | rfl, by k_is, by k_is, by first | k_is | rfl⟩)
    (case vj41 => exact ⟨_, _, by k_is, ⟨by k_is, by k_is, by k_is, by k_is, by k_is, by k_is, by k_is, by k_is⟩, by k_is, by first | k_is | rfl, by k_is, by k_is, by first | k_is | rfl⟩)
    (case vj42 => exact ⟨_, _, by k_is, ⟨by k_is, by k_is, by k_is, by k_is, by k_is, by k_is, by k_is, by k_is⟩, by k_is, by first | k_is | rfl, by k_is, by k_is, by first | k_is | rfl⟩)
    (case vj43 => exact ⟨_, _, by k_is, ⟨by k_is, by k_is, by k_is, by k_is, by k_is, by k_is, by k_is, by k_is⟩, by k_is, by first | k_is | rfl, by k_is, by k_is, by first | k_is | rfl⟩)
    (case vj44 => exact ⟨_, _, by k_is, ⟨by k_is, by k_is, by k_is, by k_is, by k_is, by k_is, by k_is, by k_is⟩, by k_is, by first | k_is | rfl, by k_is, by k_is, by first | k_is | rfl⟩)
    (case vj45 => exact ⟨_, _, by k_is, ⟨by k_is, by k_is, by k_is, by k_is, by k_is, by k_is, by k_is, by k_is⟩, by k_is, by first | k_is | rfl, by k_is, by k_is, by first | k_is | rfl⟩)
    (case vj46 => exact ⟨_, _, by k_is, ⟨by k_is, by k_is, by k_is, by k_is, by k_is, by k_is, by k_is, by k_is⟩, by k_is, by first | k_is | rfl, by k_is, by k_is, by first | k_is | rfl⟩)
    (case vj47 => exact ⟨_, by k_is, ⟨by k_is, by k_is, by k_is, by k_is, by k_is, by k_is, by k_is, by k_is⟩, by k_is, by first | k_is | rfl⟩)
    (case vj48 => exact ⟨_, _, by k_is, ⟨by k_is, by k_is, by k_is, by k_is, by k_is, by k_is, by k_is, by k_is⟩, by k_is, by first | k_is | rfl, by k_is, by k_is, by first | k_is | rfl⟩)
    (case vj49 => exact ⟨_, _, by k_is, ⟨by k_is, by k_is, by k_is, by k_is, by k_is, by k_is, by k_is, by k_is⟩, by k_is, by first | k_is | rfl, by k_is, by k_is, by first | k_is | rfl⟩)
    (case vj50 => exact ⟨_, _, by k_is, ⟨by k_is, by k_is, by k_is, by k_is, by k_is, by k_is, by k_is, by k_is⟩, by k_is, by first | k_is | rfl, by k_is, by k_is, by first | k_is | rfl⟩)
    (case vj51 => exact ⟨_, _, by k_is, ⟨by k_is, by k_is, by k_is, by k_is, by k_is, by k_is, by k_is, by k_is⟩, by k_is, by first | k_is | rfl, by k_is, by k_is, by first | k_is | rfl⟩)
    (case vj52 => exact ⟨_, _, by k_is, ⟨by k_is, by k_is, by k_is, by k_is, by k_is, by k_is, by k_is, by k_is⟩, by k_is, by first | k_is | rfl, by k_is, by k_is, by first | k_is | rfl⟩)
    (case vj53 => exact ⟨_, _, by k_is, ⟨by k_is, by k_is, by k_is, by k_is, by k_is, by k_is, by k_is, by k_is⟩, by k_is, by first | k_is | rfl, by k_is, by k_is, by first | k_is | rfl⟩)
    (case vj54 => exact ⟨_, _, by k_is, ⟨by k_is, by k_is, by k_is, by k_is, by k_is, by k_is, by k_is, by k_is⟩, by k_is, by first | k_is | rfl, by k_is, by k_is, by first | k_is | rfl⟩)
    (case vj55 => exact ⟨_, by k_is, ⟨by k_is, by k_is, by k_is, by k_is, by k_is, by k_is, by k_is, by k_is⟩, by k_is, by first | k_is | rfl⟩)
    (case vc0 => exact ⟨_, _, by k_is, by k_is, by k_is, by k_is, by k_is, by first | k_is | rfl⟩)
    (case vc1 => exact ⟨_, _, by k_is, by k_is, by k_is, by k_is, by k_is, by first | k_is | rfl⟩)
    (case vc2 => exact ⟨_, _, by k_is, by k_is, by k_is, by k_is, by k_is, by first | k_is | rfl⟩)
    (case vc3 => exact ⟨_, _, by k_is, by k_is, by k_is, by k_is, by k_is, by first | k_is | rfl⟩)
    (case vc4 => exact ⟨_, _, by k_is, by k_is, by k_is, by k_is, by k_is, by first | k_is | rfl⟩)
    (case vc5 => exact ⟨_, _, by k_is, by k_is, by k_is, by k_is, by k_is, by first | k_is | rfl⟩)
    (case vc6 => exact ⟨_, _, by k_is, by k_is, by k_is, by k_is, by k_is, by first | k_is | rfl⟩)
    (case vg0 => exact ⟨_, by k_is⟩)
    (case vg1 => exact ⟨_, by k_is⟩)
    (case vg2 => exact ⟨_, by k_is⟩)
    (case vr0 => rfl)
    (case vt0 => exact Pyr.tabIn_of (by k_is) (by k_is) rfl (by k_is) rfl)
    (case vn0 => first | rfl | kernel_rfl)
    (case vr1 => rfl)
    (case vt1 => exact Pyr.tabIn_of (by k_is) (by k_is) rfl (by k_is) rfl)
    (case vn1 => first | rfl | kernel_rfl)


