import PyProof.Rows.All
import Wide.All
import OpenK.AllK
import Wide.FinOn
import HandS.ForMost
import HandS.Exc
import HandS.ExcOwn
import HandS.TryOnly
import HandS.WordsExc
import HandS.Evl
import HandS.Walk
import HandS.IsInst
import HandS.AnyAll
import HandS.TupSets
import HandS.SetBool
import KE.KeyNested
import HandS.Strs
import HandS.SetFor
import PyProof.DictRoadsH
import HandS.Dict
import HandS.ExcCtx
import HandS.HotCalls
import HandS.Deep
import HandS.TupAny
import HandS.CallSlots
import HandS.GenList
import KE.KNest
import HandS.EndTab
import KE.SortData
import HandS.TupLe
import PyProof.ExcBaseAll.ValueError
import HandS.FStr
import PyProof.StrBlock2
import HandS.Style
import PyProof.Rows.TupMore
import KE.KUnpackStar
import HandS.SetKeys
import HandS.More
import HandS.Zip
import HandS.DictComp
import KE.KDictLaws
import HandS.ExcIs
import HandS.ListEq
import KE.KDictPairs
import HandS.DictTup
import HandS.Star
import KE.DataCmp
import HandS.ExcInit
import HandS.ExcField
import PySem.Challenge.RW_wishshown_k31_words_wrong_at_their_place
set_option maxHeartbeats 4000000
set_option Elab.async false
set_option autoImplicit false
set_option linter.all false
set_option maxRecDepth 100000
set_option maxHeartbeats 4000000
namespace Pyr
open PySem PySem.Spec PyProof.Rows L2
section
variable {P : Program} {w : World}
def NoCls (P : Program) (w : World) (n : Nat) (s : Shared) (v : Value) : Prop := ∀ (A : Around) (E : Value → Shared → Prop) (Q : Bool → Shared → Prop), Q false s → wpAny (model P w) A (ofAClassStatement n v) Q E s
theorem noCls_tuple {n : Nat} {s : Shared} {a : Addr} {o : Obj} {vs : Array Value} {m : Nat} (ho : s.heap.get? a = some o) (hc : o.cls = .type "tuple") (hd : o.data = .seq vs m) (hq : ∀ v ∈ vs.toList, NoCls P w n s v) : NoCls P w (n + 1) s (.ref a) := fun A E Q q => by
  unfold ofAClassStatement
  refine wpAny_bind (wpAny_typeOf (T := "tuple") ⟨o, ho, hc⟩ ?_)
  dsimp only
  rw [show (("tuple" : String) == "tuple") = true from by decide]
  simp only [if_true, Bool.not_true, Bool.false_eq_true, if_false]
  try refine wpAny_bind (wpAny_pure ?_)
  try simp only [Bool.not_true, Bool.false_eq_true, if_false]
  show wpAny _ _ (seqItems? (.ref a) >>= _) _ _ s
  refine wpAny_bind (wpAny_seqItems ho hd ?_)
  dsimp only
  refine wpAny_bind ?_
  show wpAny _ _ (forIn vs _ _) _ _ s
  rw [← Array.forIn_toList]
  refine wpAny_forIn_list _ (fun left r z => z = s ∧ r.1 = none ∧ ∀ v ∈ left, NoCls P w n s v) _ ?_ ?_ _ _ ⟨rfl, rfl, hq⟩
  · rintro v left r z ⟨rfl, hr, al⟩
    refine wpAny_bind (al v List.mem_cons_self _ _ _ ?_)
    exact wpAny_pure ⟨rfl, rfl, fun u hu => al u (List.mem_cons_of_mem _ hu)⟩
  · rintro ⟨r1, r2⟩ z ⟨rfl, hr, _⟩
    obtain rfl : r1 = none := hr
    exact wpAny_pure q
mutual
theorem noCls_key : ∀ (k : NestedKey) (v : Value) (n : Nat) (s : Shared), NestedIs s.heap k v → k.depth ≤ n → NoCls P w n s v
  | .none, _, n, s, x, _ => by cases x; intro A E Q q; cases n <;> exact wpAny_pure q
  | .num i, _, n, s, x, _ => by cases x <;> (intro A E Q q; cases n <;> exact wpAny_pure q)
  | .text y, _, n, s, x, _ => by cases x; intro A E Q q; cases n <;> exact wpAny_pure q
  | .tup ks, _, 0, s, x, hn => absurd hn (by rw [NestedKey.depth]; exact Nat.not_succ_le_zero _)
  | .tup ks, _, n + 1, s, x, hn => by
    cases x with
    | tup hg hc hd hk => exact noCls_tuple hg hc hd (noCls_keys ks _ n s hk (by rw [NestedKey.depth] at hn; exact Nat.le_of_succ_le_succ hn))
theorem noCls_keys : ∀ (ks : List NestedKey) (vs : List Value) (n : Nat) (s : Shared), NestedAll s.heap ks vs → NestedKey.depthAll ks ≤ n → ∀ v ∈ vs, NoCls P w n s v
  | [], _, _, _, x, _, v, hv => by cases x; cases hv
  | k :: ks, _, n, s, x, hn, v, hv => by
    rw [NestedKey.depthAll] at hn
    cases x with
    | cons x1 x2 =>
      cases hv with
      | head => exact noCls_key k _ n s x1 (Nat.le_trans (Nat.le_max_left _ _) hn)
      | tail _ hv => exact noCls_keys ks _ n s x2 (Nat.le_trans (Nat.le_max_right _ _) hn) v hv
end
variable {A : Around} {E : Value → Shared → Prop} {s : Shared}
structure KAt (h : Heap) (k : NestedKey) (a : Addr) : Prop where
  is : NestedIs h k (.ref a)
  low : k.depth ≤ 8
theorem hidden {k : NestedKey} {b : Addr} {Q : Bool → Shared → Prop} (hk : KAt s.heap k b) {ys : List Value} (hy : ∀ y ∈ ys, ∃ c j, y = Value.ref c ∧ KAt s.heap j c) (q : Q false s) : wpAny (model P w) A (searchCouldBeSeen (.ref b) ys) Q E s := by
  unfold searchCouldBeSeen
  refine wpAny_bind ?_
  refine wpAny_forIn_list _ (fun left r z => z = s ∧ r.1 = none ∧ ∀ y ∈ left, ∃ c j, y = Value.ref c ∧ KAt s.heap j c) _ ?_ ?_ _ _ ⟨rfl, rfl, hy⟩
  · rintro v left r z ⟨rfl, hr, al⟩
    obtain ⟨c, j, rfl, hc⟩ := al v List.mem_cons_self
    have next : ∀ y ∈ left, ∃ c j, y = Value.ref c ∧ KAt z.heap j c := fun u hu => al u (List.mem_cons_of_mem _ hu)
    dsimp only
    by_cases same : (b == c || (carriedByValue (.ref b) && carriedByValue (.ref c))) = true
    · exact wp_if_pos same (wpAny_pure ⟨rfl, rfl, next⟩)
    · refine wp_if_neg same ?_
      refine wpAny_bind ((nestedKind P w).quiet ⟨hk.is, hk.low⟩ ?_)
      simp only [Bool.not_true, Bool.false_eq_true, if_false]
      refine wpAny_bind ((nestedKind P w).quiet ⟨hc.is, hc.low⟩ ?_)
      simp only [Bool.not_true, Bool.false_eq_true, if_false]
      refine wpAny_bind (noCls_key k _ 8 _ hk.is hk.low _ _ _ ?_)
      simp only [Bool.false_eq_true, if_false]
      refine wpAny_bind (noCls_key j _ 8 _ hc.is hc.low _ _ _ ?_)
      exact wpAny_pure ⟨rfl, rfl, next⟩
  · rintro ⟨r1, r2⟩ z ⟨rfl, hr, _⟩
    obtain rfl : r1 = none := hr
    exact wpAny_pure q
end
end Pyr
set_option Elab.async false
set_option autoImplicit false
set_option linter.all false
set_option maxRecDepth 100000
set_option maxHeartbeats 4000000
namespace Pyr
open PySem PySem.Spec PyProof.Rows L2
def entN (w : World) (L : List (Addr × NestedKey)) : List (Int × Value) := L.map fun e => (e.2.hash w, Value.ref e.1)
structure SetN (P : Program) (w : World) (h : Heap) (a : Addr) (L : List (Addr × NestedKey)) (es : Array (Int × Value)) (ep : Nat) (t : SetTable) : Prop where
  here : ∃ o, h.get? a = some o ∧ o.ExactSet ∧ o.data = .set es ep t
  cont : es.toList = entN w L
  tab : TabOk t (L.map fun e => e.2.hash w)
  once : (L.map (·.2)).Nodup
  keys : ∀ e ∈ L, KAt h e.2 e.1
  made : w.params.followText "set-order" = true ∨ t.led = true
  less : L.length * 5 < t.mask * 3
  few : L.length < 64
section
variable {P : Program} {w : World} {A : Around} {E : Value → Shared → Prop} {s : Shared} {a : Addr} {L : List (Addr × NestedKey)} {es : Array (Int × Value)} {ep : Nat} {t : SetTable}
theorem ent_len (h : es.toList = entN w L) : es.size = L.length := by
  rw [← Array.length_toList, h, entN, List.length_map]
theorem ent_at (h : es.toList = entN w L) {i : Nat} {e : Addr × NestedKey} (hi : L[i]? = some e) : es[i]? = some (e.2.hash w, Value.ref e.1) := by
  rw [← Array.getElem?_toList, h, entN, List.getElem?_map, hi]
  rfl
theorem SetN.slots (R : SetN P w s.heap a L es ep t) : t.place.size = L.length := by
  rw [R.tab.sz, List.length_map]
theorem fits_of {n : Nat} (h1 : t.place.size = n) (h2 : t.dummies = #[]) (h3 : n ≤ t.mask) : t.fits n = true := by
  unfold SetTable.fits SetTable.fill
  rw [h2, Bool.and_eq_true, beq_iff_eq, decide_eq_true_eq]
  exact ⟨h1, by rw [h1]; exact h3⟩
theorem SetN.fit (R : SetN P w s.heap a L es ep t) : t.fits es.size = true := by
  have := R.less
  rw [ent_len R.cont]
  exact fits_of R.slots R.tab.dm (by omega)
theorem firm (h : MaskOk t.mask) : ¬ t.gaveWay = true := by
  unfold SetTable.gaveWay
  rw [mask_odd h]
  decide
def spot (t : SetTable) (h : Int) (c : Nat) : SetTable.Probe := nth t.mask (runAt t.mask (SetTable.bits h % (t.mask + 1)) (SetTable.bits h)) c
theorem spot_0 (h : Int) : t.probeStart h = spot t h 0 := rfl
theorem nth_spot (h : Int) (c q : Nat) : nth t.mask (spot t h c) q = spot t h (c + q) := (nth_add t.mask c _ q).symm
theorem nth_clear (m : Nat) : ∀ (n : Nat) (p : SetTable.Probe), p.dummy = none → (nth m p n).dummy = none
  | 0, _, h => h
  | n + 1, p, h => nth_clear m n (adv m p) (by unfold adv; split <;> exact h)
theorem SetN.hashAt (R : SetN P w s.heap a L es ep t) {i : Nat} {e : Addr × NestedKey} (hi : L[i]? = some e) : (fun i => (es[i]?.map (·.1)).getD 0) i = e.2.hash w := by
  show (es[i]?.map (·.1)).getD 0 = _
  rw [ent_at R.cont hi]
  rfl
theorem seek (R : SetN P w s.heap a L es ep t) {x : Addr} {k : NestedKey} (hx : KAt s.heap k x) (hu : A.units + 8 < cLine) (adding : Bool) {K : Nat} (near : K < 10 * SetTable.turns t.mask) (free : way t.mask (k.hash w) K ∉ t.place.toList)
    (taken : ∀ c, c < K → way t.mask (k.hash w) c ∈ t.place.toList) {Q : SetFound → Shared → Prop} (yes : ∀ r, k ∈ L.map (·.2) → (adding = false → r.isSome = true) → Q (.there r) s) (no : k ∉ L.map (·.2) → Q (.free (way t.mask (k.hash w) K) false) s) :
    ∀ (f c : Nat) (stand : Option SetTable.Probe), stand.getD (t.probeStart (k.hash w)) = spot t (k.hash w) c → c ≤ K → K < f + c →
      (∀ (i : Nat) e, L[i]? = some e → e.2 = k → ∃ d, c ≤ d ∧ d < K ∧ t.place.toList[i]? = some (way t.mask (k.hash w) d)) →
      wpAny (model P w) A (setSearchFrom a (.ref x) (k.hash w) adding f stand) Q E s := by
  intro f
  induction f with
  | zero => intro c _ _ h1 h2 _; omega
  | succ f again =>
    intro c stand st hc hf ahead
    obtain ⟨o, ho, _, hd⟩ := R.here
    have go := go_spec t R.tab.ris R.tab.dm (fun i => (es[i]?.map (·.1)).getD 0) (k.hash w) (10 * SetTable.turns t.mask) (K - c) (spot t (k.hash w) c) (nth_clear _ _ _ rfl) (by omega)
      (fun q hq => by rw [nth_spot]; exact taken (c + q) (by omega)) (by rw [nth_spot, show c + (K - c) = K by omega]; exact free)
    rw [setSearchFrom_succ]
    refine wpAny_bind (wpAny_setState_of ho hd R.fit ?_)
    dsimp only
    refine wp_if_neg (firm R.tab.mok) ?_
    try refine wpAny_bind (wpAny_pure ?_)
    have pr : t.probe (fun i => (es[i]?.map (·.1)).getD 0) (k.hash w) (stand.getD (t.probeStart (k.hash w))) = SetTable.probe.go t (fun i => (es[i]?.map (·.1)).getD 0) (k.hash w) (10 * SetTable.turns t.mask) (spot t (k.hash w) c) := by rw [st]; rfl
    rcases go with ⟨q, i, hq, hi, hh, before, pg⟩ | ⟨before, pg⟩
    · rw [pr, pg, nth_spot, nth_spot]
      rw [nth_spot] at hi
      dsimp only
      have il : i < L.length := by
        have h1 := (List.getElem?_eq_some_iff.mp hi).1
        rw [Array.length_toList, R.slots] at h1
        exact h1
      obtain ⟨e, he⟩ : ∃ e, L[i]? = some e := ⟨_, List.getElem?_eq_getElem il⟩
      have em := List.mem_of_getElem? he
      have ek := R.keys e em
      have behind : wpAny (model P w) A (searchRest a (.ref x) (k.hash w) adding f es t (spot t (k.hash w) (c + q)).j i (spot t (k.hash w) (c + (q + 1)))) Q E s := by
        unfold searchRest
        rw [ent_at R.cont he]
        dsimp only
        refine wpAny_bind (wpAny_holding ((nestedKind P w).eqBool (x := e.2) (y := k) hu ⟨ek.is, ek.low⟩ ⟨hx.is, hx.low⟩ ?_))
        refine wpAny_bind (wpAny_setState_of ho hd R.fit ?_)
        dsimp only
        have sl : t.slot (spot t (k.hash w) (c + q)).j = .live i := slot_live R.tab.ris hi
        by_cases kk : e.2 = k
        · have mem : k ∈ L.map (·.2) := List.mem_map.mpr ⟨e, em, kk⟩
          cases adding with
          | true =>
            refine wp_if_pos (by simp [kk]) ?_
            exact wpAny_pure (yes none mem (fun z => nomatch z))
          | false =>
            refine wp_if_neg (by simp) ?_
            try refine wpAny_bind (wpAny_pure ?_)
            rw [sameMem]
            dsimp only
            simp only [if_true, sl, ent_at R.cont he]
            refine wpAny_bind (wpAny_isSame_ref_self (wpAny_bind (wpAny_pure ?_)))
            simp only [if_true]
            refine wp_if_pos (by simp [kk]) ?_
            exact wpAny_pure (yes (some i) mem fun _ => rfl)
        · refine wp_if_neg (by simp [kk]) ?_
          try refine wpAny_bind (wpAny_pure ?_)
          rw [sameMem]
          dsimp only
          simp only [if_true, sl, ent_at R.cont he]
          refine wpAny_bind (wpAny_isSame_ref_self (wpAny_bind (wpAny_pure ?_)))
          simp only [if_true]
          refine wp_if_neg (by simp [kk]) ?_
          refine again (c + (q + 1)) _ rfl (by omega) (by omega) fun i0 e0 h0 k0 => ?_
          obtain ⟨d, d1, d2, d3⟩ := ahead i0 e0 h0 k0
          refine ⟨d, ?_, d2, d3⟩
          have hd0 : ¬ d < c + q := fun z => before (d - c) i0 (by omega) (by rw [nth_spot, show c + (d - c) = d by omega]; exact d3) ((R.hashAt h0).trans (by rw [k0]))
          have hd1 : d ≠ c + q := fun z => by
            rw [z] at d3
            have s0 : t.slot (spot t (k.hash w) (c + q)).j = .live i0 := slot_live R.tab.ris d3
            rw [sl] at s0
            injection s0 with s0
            rw [← s0, he] at h0
            exact kk ((congrArg Prod.snd (Option.some.inj h0)).trans k0)
          omega
      by_cases led : t.led = true
      · refine wp_if_neg (by simp [led]) ?_
        try refine wpAny_bind (wpAny_pure ?_)
        exact behind
      · refine wp_if_pos (by simp [led]) ?_
        refine wpAny_bind (hidden hx (fun y hy => ?_) ?_)
        · obtain ⟨z, hz, ez⟩ := List.mem_map.mp hy
          have hz2 : z ∈ es.toList := by
            have : z ∈ es ∧ z.1 = k.hash w := by simpa using hz
            simpa using this.1
          rw [R.cont] at hz2
          obtain ⟨e2, he2, eq2⟩ := List.mem_map.mp hz2
          exact ⟨e2.1, e2.2, by rw [← ez, ← eq2], R.keys e2 he2⟩
        · refine wp_if_neg (by decide) ?_
          try refine wpAny_bind (wpAny_pure ?_)
          exact behind
    · rw [pr, pg, nth_spot, show c + (K - c) = K by omega]
      dsimp only
      refine wpAny_pure (no fun hm => ?_)
      obtain ⟨e0, he0, k0⟩ := List.mem_map.mp hm
      obtain ⟨i0, hi0, eq0⟩ := List.getElem_of_mem he0
      have h00 : L[i0]? = some e0 := by rw [List.getElem?_eq_getElem hi0, eq0]
      obtain ⟨d, d1, d2, d3⟩ := ahead i0 e0 h00 k0
      exact before (d - c) i0 (by omega) (by rw [nth_spot, show c + (d - c) = d by omega]; exact d3) ((R.hashAt h00).trans (by rw [k0]))
theorem seek_all (R : SetN P w s.heap a L es ep t) {x : Addr} {k : NestedKey} (hx : KAt s.heap k x) (hu : A.units + 8 < cLine) (adding : Bool) {Q : SetFound → Shared → Prop} (yes : ∀ r, k ∈ L.map (·.2) → (adding = false → r.isSome = true) → Q (.there r) s)
    (no : ∀ K, k ∉ L.map (·.2) → way t.mask (k.hash w) K ∉ t.place.toList → (∀ c, c < K → way t.mask (k.hash w) c ∈ t.place.toList) → Q (.free (way t.mask (k.hash w) K) false) s) :
    wpAny (model P w) A (setSearch a (.ref x) (k.hash w) adding) Q E s := by
  have ls := R.less
  obtain ⟨K, near, free, taken⟩ := R.tab.first (by rw [List.length_map]; omega) (k.hash w)
  have small : K < 100000 := by
    have : SetTable.turns t.mask ≤ 142 := by
      unfold SetTable.turns
      rcases R.tab.mok with e | e | e <;> omega
    omega
  unfold setSearch
  refine seek R hx hu adding near free taken yes (fun hn => no K hn free taken) 100000 0 none (spot_0 _) (Nat.zero_le _) (by omega) fun i e hi hk => ?_
  have il : i < t.place.toList.length := by
    rw [Array.length_toList, R.slots]
    exact (List.getElem?_eq_some_iff.mp hi).1
  have hj := List.getElem?_eq_getElem il
  obtain ⟨c, hc, ec⟩ := R.tab.before free (h := k.hash w) (i := i) (by rw [List.getElem?_map, hi, ← hk]; rfl) hj
  exact ⟨c, Nat.zero_le _, hc, by rw [hj, ec]⟩
end
end Pyr
set_option Elab.async false
set_option autoImplicit false
set_option linter.all false
set_option maxRecDepth 100000
set_option maxHeartbeats 4000000
namespace Pyr
open PySem PySem.Spec PyProof.Rows L2
section
variable {P : Program} {w : World} {A : Around} {E : Value → Shared → Prop} {s : Shared} {a : Addr} {L : List (Addr × NestedKey)} {es : Array (Int × Value)} {ep : Nat} {t : SetTable}
theorem KAt.keep {h h' : Heap} {k : NestedKey} {b : Addr} (x : KAt h k b) (kp : ∀ c o, h.get? c = some o → h'.get? c = some o) : KAt h' k b :=
  ⟨NestedIs.at (fun c u _ _ hc _ => kp c u hc) k _ x.is, x.low⟩
end
end Pyr
set_option Elab.async false
set_option autoImplicit false
set_option linter.all false
set_option maxRecDepth 100000
set_option maxHeartbeats 4000000
namespace Pyr
open PySem PySem.Spec PyProof.Rows L2 Evl
abbrev D := PyData
mutual
def keyB : D → Bool
  | .int _ => true
  | .str _ => true
  | .tuple ds => keysB ds
  | _ => false
def keysB : List D → Bool
  | [] => true
  | d :: ds => keyB d && keysB ds
end
mutual

def nk : D → NestedKey
  | .int i => .num i
  | .str x => .text x
  | .tuple ds => .tup (nks ds)
  | _ => .none
def nks : List D → List NestedKey
  | [] => []
  | d :: ds => nk d :: nks ds
end
mutual
theorem nk_depth : ∀ x : D, (nk x).depth ≤ x.depth
  | .int i => Nat.zero_le _
  | .str i => Nat.zero_le _
  | .none => Nat.zero_le _
  | .bool _ => Nat.zero_le _
  | .list _ => Nat.zero_le _
  | .dict _ => Nat.zero_le _
  | .tuple xs => by
    have := nks_depth xs
    simp only [nk, NestedKey.depth, PyData.depth]
    omega
theorem nks_depth : ∀ xs : List D, NestedKey.depthAll (nks xs) ≤ PyData.depthAll xs
  | [] => Nat.zero_le _
  | x :: xs => by
    have h1 := nk_depth x
    have h2 := nks_depth xs
    simp only [nks, NestedKey.depthAll, PyData.depthAll]
    omega
end
structure KeyS (P : Program) (w : World) (h : Heap) (a : Addr) (ps : List (Addr × NestedKey)) : Prop where
  ex : ∃ (L : List (Addr × NestedKey)) (es : Array (Int × Value)) (ep : Nat) (t : SetTable), (∃ o, h.get? a = some o ∧ o.ExactSet ∧ o.data = .set es ep t) ∧ es.toList = entN w L ∧ TabOk t (L.map fun e => e.2.hash w) ∧ (L.map (·.2)).Nodup ∧
    (w.params.followText "set-order" = true ∨ t.led = true) ∧ L.length * 5 < t.mask * 3 ∧ L.length < 64 ∧ (∀ e ∈ L, e ∈ ps) ∧ ∀ e ∈ ps, e.2 ∈ L.map (·.2)
section
variable {P : Program} {w : World} {h h' : Heap} {a : Addr} {ps : List (Addr × NestedKey)}
theorem KeyS.keep (x : KeyS P w h a ps) (k : ∀ o, h.get? a = some o → h'.get? a = some o) : KeyS P w h' a ps := by
  obtain ⟨L, es, ep, t, ⟨o, ho, q⟩, r⟩ := x.ex
  exact ⟨L, es, ep, t, ⟨o, k o ho, q⟩, r⟩
theorem KeyS.full (x : KeyS P w h a ps) (k : ∀ e ∈ ps, KAt h e.2 e.1) : ∃ L es ep t, SetN P w h a L es ep t ∧ (∀ e ∈ L, e ∈ ps) ∧ ∀ e ∈ ps, e.2 ∈ L.map (·.2) := by
  obtain ⟨L, es, ep, t, q1, q2, q3, q4, q5, q6, q7, q8, q9⟩ := x.ex
  exact ⟨L, es, ep, t, ⟨q1, q2, q3, q4, fun e he => k e (q8 e he), q5, q6, q7⟩, q8, q9⟩
theorem SetN.bare {L : List (Addr × NestedKey)} {es : Array (Int × Value)} {ep : Nat} {t : SetTable} (R : SetN P w h a L es ep t) (h1 : ∀ e ∈ L, e ∈ ps) (h2 : ∀ e ∈ ps, e.2 ∈ L.map (·.2)) : KeyS P w h a ps :=
  ⟨L, es, ep, t, R.here, R.cont, R.tab, R.once, R.made, R.less, R.few, h1, h2⟩
def keyO (P : Program) (w : World) (a : Addr) (ps : List (Addr × NestedKey)) : HO := .ext fun h => KeyS P w h a ps
variable {A : Around} {E : Value → Shared → Prop} {s : Shared}
end
end Pyr
set_option Elab.async false
set_option autoImplicit false
set_option linter.all false
set_option maxRecDepth 100000
set_option maxHeartbeats 4000000
namespace Pyr
open PySem PySem.Spec PyProof.Rows L2
section
variable {P : Program} {w : World} {A : Around} {E : Value → Shared → Prop} {s : Shared} {a : Addr} {ps : List (Addr × NestedKey)}
theorem KeyS.ty (S : KeyS P w s.heap a ps) : s.TypeIs (.ref a) "set" := by
  obtain ⟨_, _, _, _, ⟨o, ho, hc, _⟩, _⟩ := S.ex
  exact ⟨o, ho, hc.1⟩
theorem found {x : Addr} {k : NestedKey} {Q : Bool → Shared → Prop} (S : KeyS P w s.heap a ps) (hp : ∀ e ∈ ps, KAt s.heap e.2 e.1) (hx : KAt s.heap k x) (hu : A.units + 30 < cLine) (q : ∀ tk, Q (decide (k ∈ ps.map (·.2))) { s with toks := tk }) :
    wpAny (model P w) A (setContains a (.ref x)) Q E s := by
  obtain ⟨L, es, ep, t, R, sub, all⟩ := S.full hp
  have lo := hx.low
  have same : k ∈ L.map (·.2) ↔ k ∈ ps.map (·.2) := by
    constructor
    · intro h
      obtain ⟨e, he, ee⟩ := List.mem_map.mp h
      exact List.mem_map.mpr ⟨e, sub e he, ee⟩
    · intro h
      obtain ⟨e, he, ee⟩ := List.mem_map.mp h
      rw [← ee]
      exact all e he
  obtain ⟨o, ho, hex, hd⟩ := R.here
  unfold setContains
  refine wpAny_holding ?_
  refine wpAny_bind (pyHash_key k _ _ _ _ hx.is (by omega) ?_)
  unfold setFind
  rw [show (100000 : Nat) = 99999 + 1 from rfl]
  unfold setFindIn
  refine wpAny_bind (wpAny_bind (wpAny_setState_of (s := { s with toks := s.toks + k.draws }) ho hd R.fit ?_))
  dsimp only
  refine wp_if_neg (by simp [byScan, Value.scannable]) ?_
  try refine wpAny_bind (wpAny_pure ?_)
  refine wpAny_bind (seek_all (s := { s with toks := s.toks + k.draws }) R hx (by omega) false (fun r hm hr => ?_) fun K hm free taken => ?_)
  · dsimp only
    refine wpAny_pure (wpAny_pure ?_)
    have := q (s.toks + k.draws)
    rw [decide_eq_true (same.mp hm)] at this
    rw [hr rfl]
    exact this
  · dsimp only
    refine wpAny_pure (wpAny_pure ?_)
    have := q (s.toks + k.draws)
    rw [decide_eq_false fun z => hm (same.mpr z)] at this
    exact this
end
section
variable {prog : Program} {w : World} {A : Around} {R : Result → Shared → Prop} {I : Addr} {fp wr : List Addr} {G : Array GenState → Array GenState → Prop} {n : Nat} {Pi : Nat → Value → Prop} {St : Nat → Shared → Prop}
end
section
variable {prog : Program} {w : World} {A : Around} {E : Value → Shared → Prop} {s : Shared}
end
end Pyr
set_option Elab.async false
set_option autoImplicit false
set_option linter.all false
set_option maxRecDepth 100000
set_option maxHeartbeats 4000000
namespace Pyr
open PySem PySem.Spec PyProof.Rows L2
def xsOf (ys : List (NestedKey × Addr × Addr)) : List (NestedKey × Addr × Value) := ys.map fun y => (y.1, y.2.1, Value.ref y.2.2)
structure DkS (P : Program) (w : World) (h : Heap) (a : Addr) (ys : List (NestedKey × Addr × Addr)) : Prop where
  ex : ∃ o es ep, h.get? a = some o ∧ o.ExactDict ∧ o.data = .dict es ep ∧ es.toList = (xsOf ys).map (entryOfKey (nestedKind P w)) ∧ ((xsOf ys).map (·.1)).Nodup
  sys : (a == sysModules) = false
section
variable {P : Program} {w : World} {h h' : Heap} {a : Addr} {ys : List (NestedKey × Addr × Addr)}
theorem DkS.keep (x : DkS P w h a ys) (k : ∀ o, h.get? a = some o → h'.get? a = some o) : DkS P w h' a ys := by
  obtain ⟨o, es, ep, ho, q⟩ := x.ex
  exact ⟨⟨o, es, ep, k o ho, q⟩, x.sys⟩
theorem DkS.full (x : DkS P w h a ys) (k : ∀ y ∈ ys, KAt h y.1 y.2.1) : h.DictOfH (nestedKind P w) a (xsOf ys) := by
  obtain ⟨o, es, ep, q1, q2, q3, q4, q5⟩ := x.ex
  refine ⟨o, es, ep, q1, q2, q3, q4, fun z hz => ?_, q5⟩
  obtain ⟨y, hy, rfl⟩ := List.mem_map.mp hz
  exact ⟨(k y hy).is, (k y hy).low⟩
def dkO (P : Program) (w : World) (a : Addr) (ys : List (NestedKey × Addr × Addr)) : HO := .ext fun h => DkS P w h a ys
theorem DkS.nd (x : DkS P w h a ys) : (ys.map (·.1)).Nodup := by
  obtain ⟨o, es, ep, _, _, _, _, q⟩ := x.ex
  unfold xsOf at q
  rw [List.map_map] at q
  exact q
variable {A : Around} {E : Value → Shared → Prop} {s : Shared}
end
end Pyr
set_option Elab.async false
set_option linter.all false
set_option maxRecDepth 100000
set_option maxHeartbeats 1000000
namespace Pyr
open PySem PySem.Spec PyProof.Rows L2 Evl
abbrev Takes (X : L2.Cx) (W : L2.WX) : Prop := L2N.Takes X W
theorem passAt {X : L2.Cx} {W : L2.WX} (tk : Takes X W) (σ : L2.St) : L2.PassesAt (L2N.CX X.prog X.w) X σ (L2.WE W σ) := L2N.passAt tk σ
theorem takes_of {X : L2.Cx} (hs : X.stack = X.env :: X.outer) (hf : X.env.frame = some X.env.locals) (hex : X.ex = []) {E : L2.XK} {E₁ : Value → Shared → Prop}
    (hx : X.xe = fun e s' => wpAny (model X.prog X.w) X.A (leaving X.env e) (fun _ s'' => L2N.CX X.prog X.w X.outer X.H_0 X.s_0 E e s'') E₁ s') : Takes X (fun cls d _ H => E cls d H) := L2N.takes_of hs hf hex hx
theorem takes0 {X : L2.Cx} : Takes X (fun _ _ _ _ => False) := fun u s' x => by
  obtain ⟨_, _, _, _, _, _, _, _, _, _, _, _, _, _, _, _, w⟩ := x
  exact w.elim
def keyD : Key → D
  | .inl i => .int i
  | .inr x => .str x
abbrev ptD (ds : List D) : D := .dict [(.tuple [], .list ds)]
def ptB : List (D × D) → Bool
  | [(.tuple [], .list _)] => true
  | _ => false
mutual
inductive Rp (K : PySem.W.Frag) (G : Hp) : V → D → Prop
  | non : Rp K G .non .none
  | bl (b : Bool) : Rp K G (.bl b) (.bool b)
  | int (i : Int) : Rp K G (.int i) (.int i)
  | str (x : Str) : Rp K G (.str x) (.str x)
  | lst {a : Addr} {xs : List V} {ds : List D} : SqL K G a xs → Rps K G xs ds → Rp K G (.ref a) (.list ds)
  | tup {a : Addr} {xs : List V} {ds : List D} : SqT K G a xs → Rps K G xs ds → Rp K G (.ref a) (.tuple ds)
  | dic {a : Addr} {kvs : List (Key × V)} {es : List (D × D)} : G a = some (.dK kvs) → RpKv K G kvs es → Rp K G (.ref a) (.dict es)
  | ptu {a : Addr} {o : Obj} {xs : List V} {ds : List D} : G a = some (.frz o (.tup xs)) → o.dict = none → Rps K G xs ds → Rp K G (.ref a) (ptD ds)
inductive Rps (K : PySem.W.Frag) (G : Hp) : List V → List D → Prop
  | nil : Rps K G [] []
  | cons {v : V} {vs : List V} {d : D} {ds : List D} : Rp K G v d → Rps K G vs ds → Rps K G (v :: vs) (d :: ds)
inductive RpKv (K : PySem.W.Frag) (G : Hp) : List (Key × V) → List (D × D) → Prop
  | nil : RpKv K G [] []
  | cons {k : Key} {v : V} {kvs : List (Key × V)} {d : D} {es : List (D × D)} : Rp K G v d → RpKv K G kvs es → RpKv K G ((k, v) :: kvs) ((keyD k, d) :: es)
end
section
variable {K : PySem.W.Frag} {G G' : Hp}
mutual
theorem Rp.mono (e : Ex G G') : ∀ {v : V} {d : D}, Rp K G v d → Rp K G' v d
  | _, _, .non => .non
  | _, _, .bl b => .bl b
  | _, _, .int i => .int i
  | _, _, .str x => .str x
  | _, _, .lst h r => .lst (ex_l e h) (Rps.mono e r)
  | _, _, .tup h r => .tup (ex_t e h) (Rps.mono e r)
  | _, _, .dic h r => .dic (e _ _ h) (RpKv.mono e r)
  | _, _, .ptu h n r => .ptu (e _ _ h) n (Rps.mono e r)
theorem Rps.mono (e : Ex G G') : ∀ {vs : List V} {ds : List D}, Rps K G vs ds → Rps K G' vs ds
  | _, _, .nil => .nil
  | _, _, .cons h r => .cons (Rp.mono e h) (Rps.mono e r)
theorem RpKv.mono (e : Ex G G') : ∀ {vs : List (Key × V)} {ds : List (D × D)}, RpKv K G vs ds → RpKv K G' vs ds
  | _, _, .nil => .nil
  | _, _, .cons h r => .cons (Rp.mono e h) (RpKv.mono e r)
end
theorem RpKv.notPt {kvs : List (Key × V)} {es : List (D × D)} (r : RpKv K G kvs es) : ptB es = false := by
  cases r with
  | nil => rfl
  | cons h r =>
    rename_i k _ _ _ _
    cases k <;> rfl
theorem Rps.len : ∀ {vs : List V} {ds : List D}, Rps K G vs ds → vs.length = ds.length
  | _, _, .nil => rfl
  | _, _, .cons _ r => by rw [List.length_cons, List.length_cons, Rps.len r]
theorem Rps.app : ∀ {vs us : List V} {ds es : List D}, Rps K G vs ds → Rps K G us es → Rps K G (vs ++ us) (ds ++ es)
  | _, _, _, _, .nil, s => s
  | _, _, _, _, .cons h r, s => .cons h (Rps.app r s)
theorem Rps.at : ∀ {vs : List V} {ds : List D} {i : Nat} {d : D}, Rps K G vs ds → ds[i]? = some d → ∃ v, vs[i]? = some v ∧ Rp K G v d
  | _, _, _, _, .nil, h => by simp at h
  | _, _, 0, _, .cons h _, e => by
    simp at e
    subst e
    exact ⟨_, rfl, h⟩
  | _, _, i + 1, _, .cons _ r, e => by
    obtain ⟨v, h1, h2⟩ := Rps.at (i := i) r (by simpa using e)
    exact ⟨v, by simpa using h1, h2⟩
theorem Rps.cut : ∀ {vs : List V} {ds : List D} (n : Nat), Rps K G vs ds → Rps K G (vs.take n) (ds.take n)
  | _, _, 0, _ => .nil
  | _, _, _ + 1, .nil => .nil
  | _, _, n + 1, .cons h r => .cons h (Rps.cut n r)
theorem Rps.off : ∀ {vs : List V} {ds : List D} (n : Nat), Rps K G vs ds → Rps K G (vs.drop n) (ds.drop n)
  | _, _, 0, r => r
  | _, _, _ + 1, .nil => .nil
  | _, _, n + 1, .cons _ r => Rps.off n r
theorem Rps.put {v : V} {d : D} (h : Rp K G v d) : ∀ {vs : List V} {ds : List D} (i : Nat), Rps K G vs ds → Rps K G (vs.set i v) (ds.set i d)
  | _, _, _, .nil => .nil
  | _, _, 0, .cons _ r => .cons h r
  | _, _, i + 1, .cons q r => .cons q (Rps.put h i r)
end
mutual
def flatD : D → Bool
  | .list ds => flatsD ds
  | .tuple ds => flatsD ds
  | .dict _ => false
  | _ => true
def flatsD : List D → Bool
  | [] => true
  | d :: ds => flatD d && flatsD ds
end
section
variable {K : PySem.W.Frag} {G : Hp}
mutual
theorem Rp.dp : ∀ {v : V} {d : D}, Rp K G v d → flatD d = true → Dp K G v d
  | _, _, .non, _ => .non
  | _, _, .bl b, _ => .bl b
  | _, _, .int i, _ => .int i
  | _, _, .str x, _ => .str x
  | _, _, .lst h r, f => .lst h (Rps.dp r (by simpa [flatD] using f))
  | _, _, .tup h r, f => .tup h (Rps.dp r (by simpa [flatD] using f))
  | _, _, .dic _ _, f => by simp [flatD] at f
  | _, _, .ptu _ _ _, f => by simp [flatD] at f
theorem Rps.dp : ∀ {vs : List V} {ds : List D}, Rps K G vs ds → flatsD ds = true → DpAll K G vs ds
  | _, _, .nil, _ => .nil
  | _, _, .cons h r, f => by
    rw [flatsD, Bool.and_eq_true] at f
    exact .cons (Rp.dp h f.1) (Rps.dp r f.2)
end
end
inductive Res (α : Type) where
  | ok (a : α)
  | exc (c : Str) (fs : List (Str × D))
  | bad
  | alt (f : Nat → Res α)
def Res.bind {α β : Type} : Res α → (α → Res β) → Res β
  | .ok a, k => k a
  | .exc c fs, _ => .exc c fs
  | .bad, _ => .bad
  | .alt f, k => .alt fun i => (f i).bind k
def Res.map {α β : Type} (f : α → β) : Res α → Res β
  | .ok a => .ok (f a)
  | .exc c fs => .exc c fs
  | .bad => .bad
  | .alt g => .alt fun i => (g i).map f
def Res.Leaf {α : Type} : Res α → α → Prop
  | .ok a, x => a = x
  | .alt f, x => ∃ i, (f i).Leaf x
  | _, _ => False
abbrev En := List (Option D)
structure TabList where
  mk' ::
  l : List Addr
  P : Program
  w : World
  cs : List (Addr × Addr)
  ex : Option (Addr × Str × Option Addr)
abbrev TabList.mk (l : List Addr) (P : Program) (w : World) : TabList := TabList.mk' l P w [] none
abbrev TabList.more (TS : TabList) (b : Bool) (c P : Addr) : TabList := { TS with cs := match b with
  | true => (c, P) :: TS.cs
  | false => TS.cs }
instance : Membership Addr TabList := ⟨fun T a => a ∈ T.l⟩
def ddS (xs : List Str) : List Str := xs.foldl (fun acc x => if x ∈ acc then acc else acc ++ [x]) []
def SetT (P : Program) (w : World) (h : Heap) (a : Addr) (xs : List Str) : Prop := ∃ n, n = (ddS xs).length ∧ h.SetOf (PySem.strKind P w) a (fun k => decide (k ∈ xs)) n
theorem setT_at {P : Program} {w : World} {h h' : Heap} {a : Addr} {xs : List Str} (z : SetT P w h a xs) (k : ∀ o, h.get? a = some o → h'.get? a = some o) : SetT P w h' a xs := by
  obtain ⟨n, hn, o, es, ep, t, ho, r⟩ := z
  exact ⟨n, hn, o, es, ep, t, k o ho, r⟩
inductive SetD (P : Program) (w : World) (h : Heap) (a : Addr) : List D → Prop
  | txt (xs : List Str) : SetT P w h a xs → SetD P w h a (xs.map .str)
theorem SetD.at {P : Program} {w : World} {h h' : Heap} {a : Addr} {ds : List D} (z : SetD P w h a ds) (k : ∀ o, h.get? a = some o → h'.get? a = some o) : SetD P w h' a ds := by
  cases z with
  | txt xs t => exact .txt xs (setT_at t k)
def setO (P : Program) (w : World) (a : Addr) (ds : List D) : HO := .ext fun h => SetD P w h a ds
def codeO (o : Obj) (c P : Addr) : HO := .frz o (.ext fun h => PySem.W.CodeHd h c P)
def isTb : HO → Bool
  | .tbl _ => true
  | .frz _ (.ext _) => true
  | _ => false
inductive TblOk (H : Hp) : Addr → Prop
  | mk (P : Addr) (ps : Array Value) (cf pf : Pos → Addr) (h : H P = some (.tbl ps)) (t : TriplesOk ps.toList)
      (n : ∀ p v, codeAmong p ps.toList = some v → v = .ref (cf p) ∧ ∃ o, H (cf p) = some (codeO o (cf p) (pf p)))
      (r : ∀ p v, codeAmong p ps.toList = some v → TblOk H (pf p)) : TblOk H P
section
variable {H H' : Hp} {P a : Addr} {o u : HO}
theorem TblOk.tab (x : TblOk H P) : ∃ ps : Array Value, H P = some (.tbl ps) ∧ TriplesOk ps.toList := by
  cases x with
  | mk _ ps cf pf h t n r => exact ⟨ps, h, t⟩
theorem TblOk.stay (x : TblOk H P) (k : ∀ a u, H a = some u → isTb u = true → H' a = some u) : TblOk H' P := by
  induction x with
  | mk P ps cf pf h t n r ih =>
    exact .mk P ps cf pf (k _ _ h rfl) t (fun p v e => let ⟨e1, o, e2⟩ := n p v e; ⟨e1, o, k _ _ e2 rfl⟩) ih
theorem TblOk.empty (h : H P = some (.tbl #[])) : TblOk H P := .mk P #[] (fun _ => P) (fun _ => P) h trivial (fun p v e => nomatch (show (none : Option Value) = some v from e)) fun p v e => nomatch (show (none : Option Value) = some v from e)
theorem TblOk.upd (x : TblOk H P) (h : H a = some u) (n : isTb u = false) : TblOk (L2.upd H a o) P := x.stay fun b w e m => by
  rw [upd_ne fun z => ?_]
  · exact e
  · rw [z, h] at e
    cases e
    rw [n] at m
    cases m
theorem TblOk.new (x : TblOk H P) (h : H a = none) : TblOk (L2.upd H a o) P := x.stay fun b w e _ => by
  rw [upd_ne (ne_of_none e h)]
  exact e
theorem codeAmong_app {p : Pos} {v : Value} (l m : List Value) (h : codeAmong p l = some v) (t : TriplesOk l) : codeAmong p (l ++ m) = some v := by
  fun_induction TriplesOk l with
  | case1 => cases h
  | case2 a t' b u' x rest ih =>
    simp only [List.cons_append, codeAmong] at h ⊢
    split at h
    · rename_i hc; rw [if_pos hc]; exact h
    · rename_i hc; rw [if_neg hc]; exact ih h t
  | case3 l h1 h2 => exact t.elim
theorem codeAmong_last {p : Pos} {v c : Value} {x y : Int} (l : List Value) (t : TriplesOk l) (h : codeAmong p (l ++ [rawInt x, rawInt y, c]) = some v) : codeAmong p l = some v ∨ v = c := by
  fun_induction TriplesOk l with
  | case1 =>
    simp only [List.nil_append, codeAmong, rawInt] at h
    split at h
    · exact .inr (Option.some.inj h).symm
    · cases h
  | case2 a t' b u' x rest ih =>
    simp only [List.cons_append, codeAmong] at h ⊢
    split at h
    · rename_i hc; rw [if_pos hc]; exact .inl h
    · rename_i hc; rw [if_neg hc]; exact ih t h
  | case3 l h1 h2 => exact t.elim
theorem TblOk.grow {ps : Array Value} {c' P' : Addr} {ob : Obj} {x y : Int} (hP : H P = some (.tbl ps)) (t : TriplesOk ps.toList) (k : ∀ a u, a ≠ P → H a = some u → H' a = some u) (hP2 : H' P = some (.tbl (ps ++ #[rawInt x, rawInt y, .ref c']))) (hc : H' c' = some (codeO ob c' P')) (hn : H' P' = some (.tbl #[])) {Q : Addr} (z : TblOk H Q) : TblOk H' Q := by
  have hl : (ps ++ #[rawInt x, rawInt y, Value.ref c']).toList = ps.toList ++ [rawInt x, rawInt y, .ref c'] := by simp
  induction z with
  | mk Q qs cf pf h tq n r ih =>
    by_cases e : Q = P
    · subst e
      rw [hP] at h
      cases h
      classical
      refine .mk Q _ (fun p => if (codeAmong p ps.toList).isSome then cf p else c') (fun p => if (codeAmong p ps.toList).isSome then pf p else P') hP2 (by rw [hl]; exact TriplesOk_snoc _ _ _ _ t) (fun p v e => ?_) fun p v e => ?_
      · rw [hl] at e
        cases old : codeAmong p ps.toList with
        | none =>
          rcases codeAmong_last _ t e with z | z
          · rw [old] at z
            cases z
          · exact ⟨z, ob, hc⟩
        | some w =>
          have e2 := codeAmong_app _ [rawInt x, rawInt y, Value.ref c'] old t
          rw [e] at e2
          cases e2
          obtain ⟨h1, o1, h2⟩ := n p v old
          refine ⟨h1, o1, ?_⟩
          show H' (cf p) = some (codeO o1 (cf p) (pf p))
          refine k _ _ (fun z => ?_) h2
          rw [z, hP] at h2
          cases h2
      · cases old : codeAmong p ps.toList with
        | none => exact TblOk.empty hn
        | some w => exact ih p w old
    · exact .mk Q qs cf pf (k _ _ e h) tq (fun p v e => let ⟨e1, o, e2⟩ := n p v e; ⟨e1, o, k _ _ (fun z => by rw [z, hP] at e2; cases e2) e2⟩) ih
end
structure TbOk (TS : TabList) (H : Hp) : Prop where
  all : ∀ P ∈ TS, TblOk H P
  cs : ∀ p ∈ TS.cs, (∃ o, H p.1 = some (codeO o p.1 p.2)) ∧ TblOk H p.2
structure ExT (H H' : Hp) : Prop where
  same : ∀ a o, H a = some o → (∀ ps, o ≠ .tbl ps) → H' a = some o
  old : ∀ a, H' a = none → H a = none
  tb : ∀ P, TblOk H P → TblOk H' P
theorem ExT.refl (H : Hp) : ExT H H := ⟨fun _ _ h _ => h, fun _ h => h, fun _ h => h⟩
theorem ExT.trans {H H1 H2 : Hp} (a : ExT H H1) (b : ExT H1 H2) : ExT H H2 := ⟨fun x o h n => b.same x o (a.same x o h n) n, fun x h => a.old x (b.old x h), fun P h => b.tb P (a.tb P h)⟩
theorem ExT.of {H H' : Hp} (e : Ex H H') : ExT H H' := ⟨fun a o h _ => e a o h, fun a h => fresh_back e h, fun P h => h.stay fun a u q _ => e a u q⟩
theorem TbOk.ext {TS : TabList} {H H' : Hp} (k : TbOk TS H) (e : ExT H H') : TbOk TS H' := ⟨fun P hP => e.tb P (k.all P hP), fun p hp => let ⟨⟨o, h1⟩, h2⟩ := k.cs p hp; ⟨⟨o, e.same _ _ h1 fun ps z => nomatch z⟩, e.tb _ h2⟩⟩
theorem TbOk.stay {TS : TabList} {H H' : Hp} (x : TbOk TS H) (k : ∀ a u, H a = some u → isTb u = true → H' a = some u) : TbOk TS H' := ⟨fun P hP => (x.all P hP).stay k, fun p hp => let ⟨⟨o, h1⟩, h2⟩ := x.cs p hp; ⟨⟨o, k _ _ h1 rfl⟩, h2.stay k⟩⟩
theorem TbOk.upd {TS : TabList} {H : Hp} {a : Addr} {u o : HO} (x : TbOk TS H) (h : H a = some u) (n : isTb u = false) : TbOk TS (L2.upd H a o) := x.stay fun b w e m => by
  rw [upd_ne fun z => ?_]
  · exact e
  · rw [z, h] at e
    cases e
    rw [n] at m
    cases m
structure Ok0 (TS : TabList) (G H : Hp) : Prop where
  le : Ex G H
  tb : TbOk TS H
  nt : ∀ a o, G a = some o → isTb o = false
structure Gr (TS : TabList) (G H G' H' : Hp) : Prop where
  g : Ex G G'
  h : ExT H H'
  nw : ∀ a, G' a ≠ none → G a ≠ none ∨ H a = none
  ok : Ok0 TS G' H'
section
variable {TS : TabList} {G H G1 H1 G2 H2 : Hp} {p : Addr} {o : HO}
theorem Gr.refl (k : Ok0 TS G H) : Gr TS G H G H := ⟨Ex.refl G, ExT.refl H, fun _ h => .inl h, k⟩
theorem Gr.trans (a : Gr TS G H G1 H1) (b : Gr TS G1 H1 G2 H2) : Gr TS G H G2 H2 :=
  ⟨a.g.trans b.g, a.h.trans b.h, fun x h => (b.nw x h).elim (fun z => a.nw x z) fun z => .inr (a.h.old x z), b.ok⟩
theorem upd_none {b : Addr} (h : upd H p o b = none) : H b = none := by
  by_cases e : b = p
  · subst e
    rw [upd_same] at h
    cases h
  · rwa [upd_ne e] at h
theorem TbOk.new (k : TbOk TS H) (hp : H p = none) : TbOk TS (L2.upd H p o) := k.stay fun b w e _ => by
  rw [upd_ne (ne_of_none e hp)]
  exact e
theorem Gr.own (k : Ok0 TS G H) (hp : H p = none) : Gr TS G H G (upd H p o) :=
  ⟨Ex.refl G, .of (Ex.new hp), fun _ h => .inl h, ⟨k.le.trans (Ex.new hp), k.tb.new hp, k.nt⟩⟩
theorem nt_upd (k : ∀ a o, G a = some o → isTb o = false) (ho : isTb o = false) : ∀ a u, upd G p o a = some u → isTb u = false := fun a u e => by
  by_cases q : a = p
  · subst q
    rw [upd_same] at e
    cases e
    exact ho
  · rw [upd_ne q] at e
    exact k a u e
theorem Gr.new (k : Ok0 TS G H) (hp : H p = none) (ho : isTb o = false := by rfl) : Gr TS G H (upd G p o) (upd H p o) := by
  have hg : G p = none := fresh_back k.le hp
  refine ⟨Ex.new hg, .of (Ex.new hp), fun a h => ?_, ⟨fun a u e => ?_, k.tb.new hp, nt_upd k.nt ho⟩⟩
  · by_cases e : a = p
    · subst e
      exact .inr hp
    · rw [upd_ne e] at h
      exact .inl h
  · by_cases q : a = p
    · subst q
      rw [upd_same] at e ⊢
      exact e
    · rw [upd_ne q] at e ⊢
      exact k.le _ _ e
theorem Gr.count (k : Ok0 TS G H) (g0 : G p = none) (hp : H p = some o) (ho : isTb o = false := by rfl) : Ex G (upd G p o) ∧ Ok0 TS (upd G p o) H :=
  ⟨Ex.new g0, fun a u e => by
    by_cases q : a = p
    · subst q
      rw [upd_same] at e
      cases e
      exact hp
    · rw [upd_ne q] at e
      exact k.le _ _ e, k.tb, nt_upd k.nt ho⟩
end
def ExcRep (K : PySem.W.Frag) (G H : Hp) (d : Option Addr) : List (Str × D) → Prop
  | [] => d = none
  | fs => ∃ a vfs, d = some a ∧ G a = some (.xd vfs) ∧ vfs.map (·.1) = fs.map (·.1) ∧ Rps K G (vfs.map (·.2)) (fs.map (·.2))
def PostX (TS : TabList) (X : Cx) (W : WX) (σ : L2.St) (G H : Hp) (c : Str) (fs : List (Str × D)) : Prop :=
  ∀ (C : Addr) (d : Option Addr) (G' H' : Hp), X.mg c = some (.ref C) → Gr TS G H G' H' → ExcRep X.K G' H' d fs → W (.ref C) d σ H'
def PostG {β γ : Type} (Rel : Hp → Hp → Hp → γ → β → Prop) (TS : TabList) (X : Cx) (W : WX) (σ : L2.St) (G H : Hp) (r : Res β) (Q : γ → Hp → Prop) : Prop :=
  match r with
  | .ok b => ∀ v G' H', Gr TS G H G' H' → Rel H G' H' v b → Q v H'
  | .exc c fs => PostX TS X W σ G H c fs
  | .bad => False
  | .alt f => ∀ i, PostG Rel TS X W σ G H (f i) Q
def Back {β γ : Type} (Rel : Hp → Hp → Hp → γ → β → Prop) : Prop := ∀ H H1 G' H' v b, (∀ a, H1 a = none → H a = none) → Rel H1 G' H' v b → Rel H G' H' v b
abbrev RelE (K : PySem.W.Frag) : Hp → Hp → Hp → V → D → Prop := fun _ G' _ v d => Rp K G' v d
abbrev RelA (K : PySem.W.Frag) : Hp → Hp → Hp → List V → List D → Prop := fun _ G' _ v d => Rps K G' v d
abbrev RelT : Hp → Hp → Hp → Bool → Bool → Prop := fun _ _ _ v b => v = b
abbrev RelL (K : PySem.W.Frag) : Hp → Hp → Hp → V → List D → Prop := fun H0 G' H' v ds => ∃ p vs, v = .ref p ∧ H0 p = none ∧ G' p = none ∧ H' p = some (.lst vs) ∧ Rps K G' vs ds
theorem back_E {K : PySem.W.Frag} : Back (RelE K) := fun _ _ _ _ _ _ _ h => h
theorem back_A {K : PySem.W.Frag} : Back (RelA K) := fun _ _ _ _ _ _ _ h => h
theorem back_T : Back RelT := fun _ _ _ _ _ _ _ h => h
theorem back_L {K : PySem.W.Frag} : Back (RelL K) := fun _ _ _ _ _ _ n ⟨p, vs, e, h, r⟩ => ⟨p, vs, e, n p h, r⟩
section
variable {TS : TabList} {X : Cx} {W : WX} {σ : L2.St} {G H G1 H1 : Hp} {α β γ δ : Type}
theorem PostX.shift {c : Str} {fs : List (Str × D)} (g : Gr TS G H G1 H1) (p : PostX TS X W σ G H c fs) : PostX TS X W σ G1 H1 c fs := fun C d G' H' m h r => p C d G' H' m (g.trans h) r
theorem PostG.shift {Rel : Hp → Hp → Hp → γ → β → Prop} (bk : Back Rel) {r : Res β} {Q : γ → Hp → Prop} (g : Gr TS G H G1 H1) (p : PostG Rel TS X W σ G H r Q) : PostG Rel TS X W σ G1 H1 r Q := by
  induction r with
  | ok b => exact fun v G' H' h r => p v G' H' (g.trans h) (bk _ _ _ _ _ _ g.h.old r)
  | exc c fs => exact PostX.shift g p
  | bad => exact p
  | alt f ih => exact fun i => ih i (p i)
theorem bindP {Ra : Hp → Hp → Hp → δ → α → Prop} {Rb : Hp → Hp → Hp → γ → β → Prop} (bk : Back Rb) {r : Res α} {k : α → Res β} {Q : γ → Hp → Prop} {R : δ → Hp → Prop} {wp : (δ → Hp → Prop) → Prop}
    (hr : ∀ Q', PostG Ra TS X W σ G H r Q' → wp Q') (post : PostG Rb TS X W σ G H (r.bind k) Q)
    (next : ∀ v x G1 H1, r.Leaf x → Gr TS G H G1 H1 → Ra H G1 H1 v x → PostG Rb TS X W σ G1 H1 (k x) Q → R v H1) : wp R := by
  refine hr R ?_
  clear hr
  induction r with
  | ok x => exact fun v G1 H1 g rel => next v x G1 H1 rfl g rel (PostG.shift bk g post)
  | exc c fs => exact post
  | bad => exact post
  | alt f ih => exact fun i => ih i (post i) fun v x G1 H1 l => next v x G1 H1 ⟨i, l⟩
theorem mapP {Ra : Hp → Hp → Hp → δ → α → Prop} {Rb : Hp → Hp → Hp → γ → β → Prop} {r : Res α} {f : α → β} {Q : γ → Hp → Prop} {R : δ → Hp → Prop} (post : PostG Rb TS X W σ G H (r.map f) Q)
    (next : ∀ v x G1 H1, Gr TS G H G1 H1 → Ra H G1 H1 v x → PostG Rb TS X W σ G H (.ok (f x)) Q → R v H1) : PostG Ra TS X W σ G H r R := by
  induction r with
  | ok x => exact fun v G1 H1 g rel => next v x G1 H1 g rel post
  | exc c fs => exact post
  | bad => exact post
  | alt f ih => exact fun i => ih i (post i)
end
section
variable {TS : TabList} {X : Cx} {W : WX} {σ : L2.St} {G H : Hp} {α β γ : Type}
theorem Res.Leaf.bind {r : Res α} {k : α → Res β} {a : α} {b : β} (h : r.Leaf a) (h2 : (k a).Leaf b) : (r.bind k).Leaf b := by
  induction r with
  | ok x =>
    rw [← show x = a from h] at h2
    exact h2
  | alt f ih =>
    obtain ⟨i, h⟩ := h
    exact ⟨i, ih i h⟩
  | _ => exact h.elim
end
def det {α : Type} : Res α → Res α
  | .alt _ => .bad
  | r => r
section
variable {TS : TabList} {X : Cx} {W : WX} {σ : L2.St} {G H : Hp} {α β γ : Type}
end
abbrev loD (ds : List D) : D := .dict [(.none, .list ds)]
abbrev stD (ds : List D) : D := .dict [(.bool true, .list ds)]
abbrev exD (x : D) : D := .dict [(.bool false, x)]
def xfD (c : Str) (fs : List (Str × D)) : D := .list (.str c :: fs.map fun p => .tuple [.str p.1, p.2])
inductive XAt (T : TabList) (K : PySem.W.Frag) (G : Hp) (a : Addr) : D → Prop
  | cls {c : Str} : T.ex = some (a, c, none) → XAt T K G a (.str c)
  | fld {c : Str} {d : Addr} {vfs : List (Str × V)} {fs : List (Str × D)} : T.ex = some (a, c, some d) → G d = some (.xd vfs) → vfs.map (·.1) = fs.map (·.1) → Rps K G (vfs.map (·.2)) (fs.map (·.2)) → XAt T K G a (xfD c fs)
theorem XAt.mono {T : TabList} {K : PySem.W.Frag} {G G' : Hp} {a : Addr} {x : D} (h : XAt T K G a x) (e : Ex G G') : XAt T K G' a x := by
  cases h with
  | cls h => exact .cls h
  | fld h1 h2 h3 h4 => exact .fld h1 (e _ _ h2) h3 (h4.mono e)
def isLo : D → Bool
  | .dict [(.bool false, _)] => true
  | .dict [(.none, .list _)] => true
  | .dict [(.bool true, .list _)] => true
  | _ => false
theorem Rp.notLo {K : PySem.W.Frag} {G : Hp} {v : V} {d : D} (r : Rp K G v d) : isLo d = false := by
  cases r with
  | dic h e =>
    cases e with
    | nil => rfl
    | cons r e =>
      rename_i k _ _ _ _
      cases k <;> rfl
  | _ => rfl
inductive DkR (K : PySem.W.Frag) (G : Hp) : List (NestedKey × Addr × Addr) → List D → Prop
  | nil : DkR K G [] []
  | cons {k : NestedKey} {ka b : Addr} {kd vd : D} {ys : List (NestedKey × Addr × Addr)} {es : List D} : Rp K G (.ref ka) kd → nk kd = k → keyB kd = true → kd.depth ≤ 8 → Rp K G (.ref b) vd → DkR K G ys es → DkR K G ((k, ka, b) :: ys) (.tuple [kd, vd] :: es)
theorem DkR.mono {K : PySem.W.Frag} {G G' : Hp} (e : Ex G G') : ∀ {ys : List (NestedKey × Addr × Addr)} {es : List D}, DkR K G ys es → DkR K G' ys es
  | _, _, .nil => .nil
  | _, _, .cons r1 h1 h2 h3 r2 rs => .cons (r1.mono e) h1 h2 h3 (r2.mono e) (rs.mono e)
def strO (a sc : Addr) : HO := .ext fun h => ∃ (p c : Int) (t1 t2 : Tok) (n : Nat), h.get? a = some { cls := .type "list", data := .seq #[.ref sc, .int p t1, .int c t2] n } ∧ 0 ≤ p
structure StrAt (K : PySem.W.Frag) (G : Hp) (a : Addr) : Prop where
  ex : ∃ (sc : Addr) (ns : List Int), G a = some (strO a sc) ∧ SqL K G sc (ns.map V.int)
theorem StrAt.mono {K : PySem.W.Frag} {G G' : Hp} {a : Addr} (x : StrAt K G a) (e : Ex G G') : StrAt K G' a :=
  let ⟨sc, ns, h1, h2⟩ := x.ex
  ⟨sc, ns, e _ _ h1, ex_l e h2⟩
structure StAt (TS : TabList) (K : PySem.W.Frag) (G H : Hp) (a : Addr) (ds : List D) : Prop where
  ex : ((ds ≠ [] ∧ ds.head? ≠ some .none ∧ ds.head? ≠ some (.bool false)) ∧ H a = some (setO TS.P TS.w a ds)) ∨ (∃ ps : List (Addr × NestedKey), H a = some (keyO TS.P TS.w a ps) ∧ Rps K G (ps.map fun e => V.ref e.1) ds ∧ nks ds = ps.map (·.2) ∧ keysB ds = true ∧ ∀ d ∈ ds, d.depth ≤ 8) ∨
    (∃ ys es, ds = .none :: es ∧ H a = some (dkO TS.P TS.w a ys) ∧ DkR K G ys es) ∨ (ds = [.bool false] ∧ StrAt K G a ∧ ∃ sc, H a = some (strO a sc))
theorem StAt.mono {TS : TabList} {K : PySem.W.Frag} {G G' H H' : Hp} {a : Addr} {ds : List D} (x : StAt TS K G H a ds) (e : Ex G G') (h : ∀ u, H a = some u → isTb u = false → H' a = some u) : StAt TS K G' H' a ds := by
  rcases x.ex with ⟨n, z⟩ | ⟨ps, z, r, q⟩ | ⟨ys, es, q, z, r⟩ | ⟨q, r, sc, z⟩
  · exact ⟨.inl ⟨n, h _ z rfl⟩⟩
  · exact ⟨.inr (.inl ⟨ps, h _ z rfl, r.mono e, q⟩)⟩
  · exact ⟨.inr (.inr (.inl ⟨ys, es, q, h _ z rfl, r.mono e⟩))⟩
  · exact ⟨.inr (.inr (.inr ⟨q, r.mono e, sc, h _ z rfl⟩))⟩
theorem StAt.there {TS : TabList} {K : PySem.W.Frag} {G H : Hp} {a : Addr} {ds : List D} (x : StAt TS K G H a ds) : ∃ u, H a = some u ∧ isTb u = false := by
  rcases x.ex with ⟨_, z⟩ | ⟨ps, z, _⟩ | ⟨ys, es, _, z, _⟩ | ⟨_, _, sc, z⟩
  · exact ⟨_, z, rfl⟩
  · exact ⟨_, z, rfl⟩
  · exact ⟨_, z, rfl⟩
  · exact ⟨_, z, rfl⟩
structure RpE (TS : TabList) (K : PySem.W.Frag) (G H : Hp) (ρ : En) (σ : L2.St) : Prop where
  len : ρ.length ≤ σ.length
  at' : ∀ (i : Nat) (d : D), ρ[i]? = some (some d) → isLo d = false → ∃ v, σ[i]? = some (some v) ∧ Rp K G v d
  lo : ∀ (i : Nat) (ds : List D), ρ[i]? = some (some (loD ds)) → ∃ a vs, σ[i]? = some (some (.ref a)) ∧ H a = some (.lst vs) ∧ Rps K G vs ds
  st : ∀ (i : Nat) (ds : List D), ρ[i]? = some (some (stD ds)) → ∃ a, σ[i]? = some (some (.ref a)) ∧ StAt TS K G H a ds
  ex : ∀ (i : Nat) (x : D), ρ[i]? = some (some (exD x)) → ∃ a, σ[i]? = some (some (.ref a)) ∧ XAt TS K G a x
theorem RpE.mono {TS : TabList} {K : PySem.W.Frag} {G G' H H' : Hp} {ρ : En} {σ : L2.St} (g : Gr TS G H G' H') (h : RpE TS K G H ρ σ) : RpE TS K G' H' ρ σ :=
  ⟨h.len, fun i d q z => let ⟨v, a, b⟩ := h.at' i d q z; ⟨v, a, b.mono g.g⟩, fun i ds q => let ⟨a, vs, h1, h2, h3⟩ := h.lo i ds q; ⟨a, vs, h1, g.h.same a _ h2 (fun ps e => by cases e), h3.mono g.g⟩, fun i ds q => let ⟨a, h1, h2⟩ := h.st i ds q; ⟨a, h1, h2.mono g.g fun u hu n => g.h.same a u hu fun ps z => by rw [z] at n; cases n⟩, fun i x q => let ⟨a, h1, h2⟩ := h.ex i x q; ⟨a, h1, h2.mono g.g⟩⟩
def wpE (X : Cx) (e : Expr) : TE := fun σ H Q => ∀ (pins : List (Addr × Obj)) (s : Shared), Inv X pins σ H s → wpAny (model X.prog X.w) X.A (eval e X.env) (EP X pins σ Q) X.xe s
theorem pe_wp (X : Cx) (e : Expr) : PE X e (wpE X e) := ⟨fun pins s _ _ _ I h => h pins s I⟩
theorem wpE_of {X : Cx} {e : Expr} {t : TE} {σ : L2.St} {H : Hp} {Q : VK} (h : PE X e t) (q : t σ H Q) : wpE X e σ H Q := fun pins s I => h.run pins s σ H Q I q
def wpT (X : Cx) (e : Expr) : TT := fun σ H Q => ∀ (pins : List (Addr × Obj)) (s : Shared), Inv X pins σ H s → wpAny (model X.prog X.w) X.A (isTrue e X.env (eval e X.env)) (TP X pins σ Q) X.xe s
theorem pt_wp (X : Cx) (e : Expr) : PT X e (wpT X e) := ⟨fun pins s _ _ _ I h => h pins s I⟩
theorem wpT_of {X : Cx} {e : Expr} {t : TT} {σ : L2.St} {H : Hp} {Q : Bool → Hp → Prop} (h : PT X e t) (q : t σ H Q) : wpT X e σ H Q := fun pins s I => h.run pins s σ H Q I q
def wpA (X : Cx) (es : List Expr) : TA := fun σ H Q => ∀ (pos : Pos) (pins : List (Addr × Obj)) (s : Shared), Inv X pins σ H s → wpAny (model X.prog X.w) X.A (spliced (backTo pos (starEach es X.env))) (AP X pins σ Q) X.xe s
theorem pa_wp (X : Cx) (es : List Expr) : PA X es (wpA X es) := ⟨fun pos pins s _ _ _ I h => h pos pins s I⟩
theorem wpA_of {X : Cx} {es : List Expr} {t : TA} {σ : L2.St} {H : Hp} {Q : List V → Hp → Prop} (h : PA X es t) (q : t σ H Q) : wpA X es σ H Q := fun pos pins s I => h.run pos pins s σ H Q I q
structure DE (TS : TabList) (X : Cx) (e : Expr) (f : En → Res D) : Prop where
  run : ∀ (W : WX) (ρ : En) (σ : L2.St) (G H : Hp) (Q : VK), Takes X W → RpE TS X.K G H ρ σ → Ok0 TS G H → PostG (RelE X.K) TS X W σ G H (f ρ) Q → wpE X e σ H Q
instance {TS : TabList} {X : Cx} {e : Expr} {f : En → Res D} : CoeFun (DE TS X e f) fun _ => ∀ (W : WX) (ρ : En) (σ : L2.St) (G H : Hp) (Q : VK), Takes X W → RpE TS X.K G H ρ σ → Ok0 TS G H → PostG (RelE X.K) TS X W σ G H (f ρ) Q → wpE X e σ H Q := ⟨DE.run⟩
structure DL (TS : TabList) (X : Cx) (e : Expr) (f : En → Res (List D)) : Prop where
  run : ∀ (W : WX) (ρ : En) (σ : L2.St) (G H : Hp) (Q : VK), Takes X W → RpE TS X.K G H ρ σ → Ok0 TS G H → PostG (RelL X.K) TS X W σ G H (f ρ) Q → wpE X e σ H Q
instance {TS : TabList} {X : Cx} {e : Expr} {f : En → Res (List D)} : CoeFun (DL TS X e f) fun _ => ∀ (W : WX) (ρ : En) (σ : L2.St) (G H : Hp) (Q : VK), Takes X W → RpE TS X.K G H ρ σ → Ok0 TS G H → PostG (RelL X.K) TS X W σ G H (f ρ) Q → wpE X e σ H Q := ⟨DL.run⟩
structure DT (TS : TabList) (X : Cx) (e : Expr) (f : En → Res Bool) : Prop where
  run : ∀ (W : WX) (ρ : En) (σ : L2.St) (G H : Hp) (Q : Bool → Hp → Prop), Takes X W → RpE TS X.K G H ρ σ → Ok0 TS G H → PostG RelT TS X W σ G H (f ρ) Q → wpT X e σ H Q
instance {TS : TabList} {X : Cx} {e : Expr} {f : En → Res Bool} : CoeFun (DT TS X e f) fun _ => ∀ (W : WX) (ρ : En) (σ : L2.St) (G H : Hp) (Q : Bool → Hp → Prop), Takes X W → RpE TS X.K G H ρ σ → Ok0 TS G H → PostG RelT TS X W σ G H (f ρ) Q → wpT X e σ H Q := ⟨DT.run⟩
structure DA (TS : TabList) (X : Cx) (es : List Expr) (f : En → Res (List D)) : Prop where
  run : ∀ (W : WX) (ρ : En) (σ : L2.St) (G H : Hp) (Q : List V → Hp → Prop), Takes X W → RpE TS X.K G H ρ σ → Ok0 TS G H → PostG (RelA X.K) TS X W σ G H (f ρ) Q → wpA X es σ H Q
instance {TS : TabList} {X : Cx} {es : List Expr} {f : En → Res (List D)} : CoeFun (DA TS X es f) fun _ => ∀ (W : WX) (ρ : En) (σ : L2.St) (G H : Hp) (Q : List V → Hp → Prop), Takes X W → RpE TS X.K G H ρ σ → Ok0 TS G H → PostG (RelA X.K) TS X W σ G H (f ρ) Q → wpA X es σ H Q := ⟨DA.run⟩
theorem DL.de {TS : TabList} {X : Cx} {e : Expr} {f : En → Res (List D)} (h : DL TS X e f) : DE TS X e (fun ρ => (f ρ).map .list) := by
  refine ⟨?_⟩
  intro W ρ σ G H Q tk re ok post
  refine h W ρ σ G H Q tk re ok ?_
  have post : PostG (RelE X.K) TS X W σ G H ((f ρ).map .list) Q := post
  refine mapP post ?_
  rintro v ds G' H' g ⟨p, vs, rfl, h0, g0, hp, r⟩ post
  obtain ⟨e1, e2⟩ := Gr.count g.ok g0 hp
  refine post _ _ H' ⟨g.g.trans e1, g.h, fun a q => ?_, e2⟩ (.lst (.inl (.inl upd_same)) (r.mono e1))
  by_cases z : a = p
  · subst z
    exact .inr h0
  · rw [upd_ne z] at q
    exact g.nw a q
end Pyr
set_option Elab.async false
set_option linter.all false
set_option maxRecDepth 100000
set_option maxHeartbeats 1000000
namespace Pyr
open PySem PySem.Spec PyProof.Rows L2 Evl
structure CtE (X : Cx) : Prop where
  calm : X.calm = true
  nd : X.N.Nodup
  un : X.A.units + 65 < cLine
mutual
def okD : Nat → D → Bool
  | _, .none => true
  | _, .bool _ => true
  | _, .int _ => true
  | _, .str x => PyData.strOk x
  | 0, .list _ => false
  | n + 1, .list ds => okDs n ds
  | 0, .tuple _ => false
  | n + 1, .tuple ds => okDs n ds
  | _, .dict _ => false
def okDs : Nat → List D → Bool
  | _, [] => true
  | n, d :: ds => okD n d && okDs n ds
end
mutual
theorem okD_flat : ∀ (d : D) (n : Nat), okD n d = true → flatD d = true ∧ d.canLay0 = true ∧ d.depth ≤ n
  | .none, n, _ => ⟨by simp [flatD], by simp [PyData.canLay0], by simp [PyData.depth]⟩
  | .bool _, n, _ => ⟨by simp [flatD], by simp [PyData.canLay0], by simp [PyData.depth]⟩
  | .int _, n, _ => ⟨by simp [flatD], by simp [PyData.canLay0], by simp [PyData.depth]⟩
  | .str _, n, h => ⟨by simp [flatD], by simpa [PyData.canLay0, okD] using h, by simp [PyData.depth]⟩
  | .list ds, 0, h => by simp [okD] at h
  | .list ds, n + 1, h => by
    obtain ⟨a, b, c⟩ := okDs_flat ds n (by simpa [okD] using h)
    refine ⟨by simpa [flatD] using a, by simpa [PyData.canLay0] using b, ?_⟩
    simp only [PyData.depth]
    omega
  | .tuple ds, 0, h => by simp [okD] at h
  | .tuple ds, n + 1, h => by
    obtain ⟨a, b, c⟩ := okDs_flat ds n (by simpa [okD] using h)
    refine ⟨by simpa [flatD] using a, by simpa [PyData.canLay0] using b, ?_⟩
    simp only [PyData.depth]
    omega
  | .dict _, n, h => by simp [okD] at h
theorem okDs_flat : ∀ (ds : List D) (n : Nat), okDs n ds = true → flatsD ds = true ∧ PyData.canLayAll0 ds = true ∧ PyData.depthAll ds ≤ n
  | [], n, _ => ⟨by simp [flatsD], by simp [PyData.canLayAll0], by simp [PyData.depthAll]⟩
  | d :: ds, n, h => by
    rw [okDs, Bool.and_eq_true] at h
    obtain ⟨a, b, c⟩ := okD_flat d n h.1
    obtain ⟨a', b', c'⟩ := okDs_flat ds n h.2
    refine ⟨by rw [flatsD, a, a']; rfl, by rw [PyData.canLayAll0, b, b']; rfl, ?_⟩
    simp only [PyData.depthAll]
    omega
end
abbrev okd (d : D) : Bool := okD 60 d
theorem okd_shaped {d : D} (h : okd d = true) : SeqAt.shaped d = true := by
  obtain ⟨_, b, c⟩ := okD_flat d 60 h
  show (d.canLay0 && decide (d.depth ≤ 64)) = true
  rw [b, decide_eq_true (by omega)]
  rfl
theorem Rp.okdp {K : PySem.W.Frag} {G : Hp} {v : V} {d : D} (r : Rp K G v d) (h : okd d = true) : Dp K G v d := r.dp (okD_flat d 60 h).1
section
variable {X : Cx}
def wpO (X : Cx) (f : Value → Value → Sem Value) : R2 := fun x y H Q => ∀ (pins : List (Addr × Obj)) (s : Shared) (σ : L2.St) (v u : Value), Inv X pins σ H s → RelV x v → RelV y u → wpAny (model X.prog X.w) X.A (f v u) (EP X pins σ Q) X.xe s
theorem opr_wp (f : Value → Value → Sem Value) : OpR X f (wpO X f) := fun pins s σ _ _ _ v u _ I rx ry h => h pins s σ v u I rx ry
theorem wpO_of {f : Value → Value → Sem Value} {r : R2} {x y : V} {H : Hp} {Q : VK} (h : OpR X f r) (q : r x y H Q) : wpO X f x y H Q := fun pins s σ v u I rx ry => h pins s σ H x y v u Q I rx ry q
def wpC (X : Cx) (f : Value) : List V → Hp → VK → Prop := fun xs H Q => ∀ (pins : List (Addr × Obj)) (s : Shared) (σ : L2.St) (us : List Value), Inv X pins σ H s → Vals xs us → wpAny (model X.prog X.w) X.A (call f us) (EP X pins σ Q) X.xe s
theorem cr_wp (f : Value) : CallR X f (wpC X f) := fun pins s σ _ _ us _ I r h => h pins s σ us I r
theorem wpC_of {f : Value} {r : List V → Hp → VK → Prop} {xs : List V} {H : Hp} {Q : VK} (h : CallR X f r) (q : r xs H Q) : wpC X f xs H Q := fun pins s σ us I rx => h pins s σ H xs us Q I rx q
def wpI (X : Cx) : R2 := fun x y H Q => ∀ (value slice : Expr) (pins : List (Addr × Obj)) (s : Shared) (σ : L2.St) (v u : Value), Inv X pins σ H s → RelV x v → RelV y u → subscripted slice false v u = operate [v, u] (getItem v u) → wpAny (model X.prog X.w) X.A (subscriptTail value slice v u) (EP X pins σ Q) X.xe s
theorem ixr_wp : IxR X (wpI X) := fun value slice pins s σ _ _ _ v u _ I rx ry h hs => h value slice pins s σ v u I rx ry hs
theorem wpI_of {r : R2} {x y : V} {H : Hp} {Q : VK} (h : IxR X r) (q : r x y H Q) : wpI X x y H Q := fun value slice pins s σ v u I rx ry hs => h value slice pins s σ H x y v u Q I rx ry q hs
def wpS (X : Cx) : V → Option Int → Option Int → Hp → VK → Prop := fun x lo hi H Q => ∀ (pins : List (Addr × Obj)) (s : Shared) (σ : L2.St) (v vl vu : Value) (sl : Addr), Inv X pins σ H s → RelV x v → s.heap.IsSliceOf sl vl vu .none → IsPart vl lo → IsPart vu hi →
    ∃ T id, typeLookup (.type T) "__getitem__" = pure (some (.builtin id)) ∧ s.TypeIs v T ∧ wpAny (model X.prog X.w) X.A (getItem v (.ref sl)) (EP X pins σ Q) X.xe s
theorem slr_wp : SlR X (wpS X) := fun pins s σ _ _ v vl vu _ _ sl _ I rx hs pl pu h => h pins s σ v vl vu sl I rx hs pl pu
theorem wpS_of {r : V → Option Int → Option Int → Hp → VK → Prop} {x : V} {lo hi : Option Int} {H : Hp} {Q : VK} (h : SlR X r) (q : r x lo hi H Q) : wpS X x lo hi H Q := fun pins s σ v vl vu sl I rx hs pl pu => h pins s σ H x v vl vu lo hi sl Q I rx hs pl pu q
end
def flat0 : D → Bool
  | .none => true
  | .bool _ => true
  | .int _ => true
  | .str _ => true
  | _ => false
def eVar (i : Nat) : En → Res D := fun ρ => match ρ[i]? with
  | some (some d) => if isLo d then .bad else .ok d
  | _ => .bad
def eC (d : D) : En → Res D := fun _ => .ok d
def e1 (g : D → Res D) (fa : En → Res D) : En → Res D := fun ρ => (fa ρ).bind g
def e2 (g : D → D → Res D) (fa fb : En → Res D) : En → Res D := fun ρ => (fa ρ).bind fun x => (fb ρ).bind fun y => g x y
def eN (g : List D → Res D) (fa : En → Res (List D)) : En → Res D := fun ρ => (fa ρ).bind g
def eIf (t : En → Res Bool) (fa fb : En → Res D) : En → Res D := fun ρ => (t ρ).bind fun b => if b then fa ρ else fb ρ
def a0 : En → Res (List D) := fun _ => .ok []
def aC (fa : En → Res D) (fr : En → Res (List D)) : En → Res (List D) := fun ρ => (fa ρ).bind fun x => (fr ρ).bind fun xs => .ok (x :: xs)
def tE (g : D → Res Bool) (fa : En → Res D) : En → Res Bool := fun ρ => (fa ρ).bind g
def tNotR (t : En → Res Bool) : En → Res Bool := fun ρ => (t ρ).bind fun b => .ok (!b)
def tAndR (t u : En → Res Bool) : En → Res Bool := fun ρ => (t ρ).bind fun b => if b then u ρ else .ok false
def tOrR (t u : En → Res Bool) : En → Res Bool := fun ρ => (t ρ).bind fun b => if b then .ok true else u ρ
def eB (t : En → Res Bool) : En → Res D := fun ρ => (t ρ).bind fun b => .ok (.bool b)
def boolD : D → Res Bool
  | .bool b => .ok b
  | _ => .bad
def LIM : Nat := 100000
def okL {α : Type} (n : Nat) (r : Res α) : Res α := if n ≤ LIM then r else .bad
def addD : D → D → Res D
  | .int i, .int j => .ok (.int (i + j))
  | .str x, .str y => okL (x.length + y.length) (.ok (.str (x ++ y)))
  | .list xs, .list ys => okL (xs.length + ys.length) (.ok (.list (xs ++ ys)))
  | .tuple xs, .tuple ys => okL (xs.length + ys.length) (.ok (.tuple (xs ++ ys)))
  | _, _ => .bad
def subD : D → D → Res D
  | .int i, .int j => .ok (.int (i - j))
  | _, _ => .bad
def mulD : D → D → Res D
  | .int i, .int j => if (-(2 ^ 64) < i ∧ i < 2 ^ 64) ∨ (-(2 ^ 64) < j ∧ j < 2 ^ 64) then .ok (.int (i * j)) else .bad
  | _, _ => .bad
def fdivD : D → D → Res D
  | .int i, .int j => if j ≠ 0 ∧ j.natAbs < 1073741824 then .ok (.int (i.fdiv j)) else .bad
  | _, _ => .bad
def modD : D → D → Res D
  | .int i, .int j => if j ≠ 0 then .ok (.int (i.fmod j)) else .bad
  | _, _ => .bad
def powD : D → D → Res D
  | .int i, .int j => if 0 ≤ j ∧ j ≤ 1000000 ∧ i.natAbs < 2 ^ 64 then .ok (.int (i ^ j.toNat)) else .bad
  | _, _ => .bad
def negD : D → Res D
  | .int i => .ok (.int (-i))
  | _ => .bad
def scaD : D → D → Bool
  | .none, .none => true
  | .none, .int _ => true
  | .int _, .none => true
  | .none, .str _ => true
  | .str _, .none => true
  | .int _, .int _ => true
  | .bool _, .bool _ => true
  | .str _, .str _ => true
  | .int _, .str _ => true
  | .str _, .int _ => true
  | _, _ => false
def eqD (x y : D) : Res D := if scaD x y || (okd x && okd y) then .ok (.bool (PyData.eqv x y)) else .bad
def neD (x y : D) : Res D := if scaD x y || (okd x && okd y) then .ok (.bool (!PyData.eqv x y)) else .bad
def ltD : D → D → Res D
  | .int i, .int j => .ok (.bool (decide (i < j)))
  | .str x, .str y => .ok (.bool (decide (x.cps.toList < y.cps.toList)))
  | _, _ => .bad
def leD : D → D → Res D
  | .int i, .int j => .ok (.bool (decide (i ≤ j)))
  | .str x, .str y => .ok (.bool (!decide (y.cps.toList < x.cps.toList)))
  | _, _ => .bad
def gtD : D → D → Res D
  | .int i, .int j => .ok (.bool (decide (j < i)))
  | .str x, .str y => .ok (.bool (decide (y.cps.toList < x.cps.toList)))
  | _, _ => .bad
def geD : D → D → Res D
  | .int i, .int j => .ok (.bool (decide (j ≤ i)))
  | .str x, .str y => .ok (.bool (!decide (x.cps.toList < y.cps.toList)))
  | _, _ => .bad
def isNoneD : D → Bool
  | .none => true
  | _ => false
def isND (x _y : D) : Res D := .ok (.bool (isNoneD x))
def inD : D → D → Res D
  | .str x, .str y => if x.length = 1 then .ok (.bool (decide (x.cps.getD 0 0 ∈ y.cps.toList))) else .bad
  | x, .list ds => if okd x && okd (.list ds) then .ok (.bool (ds.any fun z => PyData.eqv z x)) else .bad
  | x, .tuple ds => if flat0 x && ds.all flat0 then .ok (.bool (ds.any fun z => PyData.eqv z x)) else if okd x && okd (.tuple ds) then .ok (.bool (ds.any fun z => PyData.eqv z x)) else .bad
  | _, _ => .bad
def notInD (x y : D) : Res D := (inD x y).bind fun b => match b with
  | .bool b => .ok (.bool (!b))
  | _ => .bad
def truD : D → Res Bool
  | .none => .ok false
  | .bool b => .ok b
  | .int i => .ok (i != 0)
  | .str x => okL x.length (.ok (x.length != 0))
  | .list ds => .ok (!ds.isEmpty)
  | .tuple ds => .ok (!ds.isEmpty)
  | _ => .bad
def atD : D → D → Res D
  | .list ds, .int i => match atI ds i with
    | some d => .ok d
    | none => .bad
  | .tuple ds, .int i => match atI ds i with
    | some d => .ok d
    | none => .bad
  | .str x, .int i => okL x.length (match atI x.cps.toList i with
    | some c => .ok (.str ⟨#[c]⟩)
    | none => .bad)
  | _, _ => .bad
def lenD : D → Res D
  | .list ds => .ok (.int ds.length)
  | .tuple ds => .ok (.int ds.length)
  | .str x => okL x.length (.ok (.int x.length))
  | _ => .bad
section
variable {TS : TabList} {X : Cx} {a b c : Expr} {fa fb fc : En → Res D} {t u : En → Res Bool} {es rest : List Expr} {fr : En → Res (List D)} {pos : Pos} {g : D → Res D} {g2 : D → D → Res D}
theorem PostG.eq {β γ : Type} {Rel : Hp → Hp → Hp → γ → β → Prop} {W : WX} {σ : L2.St} {G H : Hp} {r r' : Res β} {Q : γ → Hp → Prop} (p : PostG Rel TS X W σ G H r Q) (e : r = r') : PostG Rel TS X W σ G H r' Q := e ▸ p
theorem de_var (i : Nat) {x : Str} (hN : X.N[i]? = some x := by rfl) (hv : Vis X.env.scope x := by first | exact Or.inl rfl | exact Or.inr (Or.inl rfl) | exact Or.inr (Or.inr rfl)) (hd : (x == ("__debug__" : Str)) = false := by decide) (hcd : (x == ("__classdict__" : Str)) = false := by decide) :
    DE TS X (.Name x pos) (eVar i) := by
  refine ⟨?_⟩
  intro W ρ σ G H Q tk re ok post
  have post : PostG (RelE X.K) TS X W σ G H (eVar i ρ) Q := post
  unfold eVar at post
  refine wpE_of (pe_var hN hv hd hcd) ?_
  split at post
  · rename_i d hd
    split at post
    · exact post.elim
    · rename_i hl
      obtain ⟨v, h1, h2⟩ := re.at' i d hd (by simpa using hl)
      exact ⟨v, h1, post v G H (Gr.refl ok) h2⟩
  · exact post.elim
theorem de_c {d : D} {v : V} (h : PE X a (tC v)) (r : ∀ G, Rp X.K G v d) : DE TS X a (eC d) := by
  refine ⟨?_⟩
  intro W ρ σ G H Q tk re ok post
  exact wpE_of h (post v G H (Gr.refl ok) (r G))
theorem de_int {i : Int} {j : Nat} : DE TS X (.Constant (.int i) j pos) (eC (.int i)) := de_c pe_int fun _ => .int i
theorem de_str {x : Str} {j : Nat} : DE TS X (.Constant (.str x) j pos) (eC (.str x)) := de_c pe_str fun _ => .str x
theorem de_bl {k : Bool} {j : Nat} : DE TS X (.Constant (.bool k) j pos) (eC (.bool k)) := de_c pe_bl fun _ => .bl k
theorem de_non {j : Nat} : DE TS X (.Constant .none j pos) (eC .none) := de_c pe_non fun _ => .non
theorem de_glob {x : Str} {d : D} {v : V} {w : Value} (hg : Gl X x) (hm : X.mg x = some w) (r : RelV v w) (rp : ∀ G, Rp X.K G v d) (hd : (x == ("__debug__" : Str)) = false := by decide) : DE TS X (.Name x pos) (eC d) := de_c (pe_glob hg hm r hd) rp
structure OpD (TS : TabList) (X : Cx) (f : Value → Value → Sem Value) (g : D → D → Res D) : Prop where
  run : ∀ (W : WX) (σ : L2.St) (v u : V) (x y : D) (G H : Hp) (Q : VK), Ok0 TS G H → Rp X.K G v x → Rp X.K G u y → PostG (RelE X.K) TS X W σ G H (g x y) Q → wpO X f v u H Q
instance {TS : TabList} {X : Cx} {f : Value → Value → Sem Value} {g : D → D → Res D} : CoeFun (OpD TS X f g) fun _ => ∀ (W : WX) (σ : L2.St) (v u : V) (x y : D) (G H : Hp) (Q : VK), Ok0 TS G H → Rp X.K G v x → Rp X.K G u y → PostG (RelE X.K) TS X W σ G H (g x y) Q → wpO X f v u H Q := ⟨OpD.run⟩
theorem two {R : V → V → Hp → Prop} {W : WX} {ρ : En} {σ : L2.St} {G H : Hp} {Q : VK} (ha : DE TS X a fa) (hb : DE TS X b fb) (tk : Takes X W) (re : RpE TS X.K G H ρ σ) (ok : Ok0 TS G H) (post : PostG (RelE X.K) TS X W σ G H (e2 g2 fa fb ρ) Q)
    (next : ∀ v u x y G2 H2, Ok0 TS G2 H2 → Rp X.K G2 v x → Rp X.K G2 u y → PostG (RelE X.K) TS X W σ G2 H2 (g2 x y) Q → R v u H2) : wpE X a σ H fun v H1 => wpE X b σ H1 fun u H2 => R v u H2 := by
  refine bindP back_E (fun Q' h => ha W ρ σ G H Q' tk re ok h) post fun v x G1 H1 _ g1 rx post1 => ?_
  refine bindP back_E (fun Q' h => hb W ρ σ G1 H1 Q' tk (re.mono g1) g1.ok h) post1 fun u y G2 H2 _ g2' ry post2 => ?_
  exact next v u x y G2 H2 g2'.ok (rx.mono g2'.g) ry post2
theorem de_bin {op : Operator} (h : OpD TS X (binaryOp op) g2) (ha : DE TS X a fa) (hb : DE TS X b fb) : DE TS X (.BinOp a op b pos) (e2 g2 fa fb) := by
  refine ⟨?_⟩
  intro W ρ σ G H Q tk re ok post
  exact wpE_of (pe_op (opr_wp _) (pe_wp X a) (pe_wp X b)) (two ha hb tk re ok post fun v u x y G2 H2 ok2 rx ry p => h W σ v u x y G2 H2 Q ok2 rx ry p)
theorem de_cmp {op : CmpOp} (h : OpD TS X (compareOp op) g2) (ha : DE TS X a fa) (hb : DE TS X b fb) (hm : behindInMarks op b = false := by first | exact nomark _ | rfl) : DE TS X (.Compare a [op] [b] pos) (e2 g2 fa fb) := by
  refine ⟨?_⟩
  intro W ρ σ G H Q tk re ok post
  exact wpE_of (pe_cmpR (opr_wp _) (pe_wp X a) (pe_wp X b) hm) (two ha hb tk re ok post fun v u x y G2 H2 ok2 rx ry p => h W σ v u x y G2 H2 Q ok2 rx ry p)
theorem dt_cmp {op : CmpOp} (h : OpD TS X (compareOp op) g2) (ha : DE TS X a fa) (hb : DE TS X b fb) (hm : behindInMarks op b = false := by first | exact nomark _ | rfl) : DT TS X (.Compare a [op] [b] pos) (tE boolD (e2 g2 fa fb)) := by
  refine ⟨?_⟩
  intro W ρ σ G H Q tk re ok post
  refine wpT_of (pt_cmpR (opr_wp _) (pe_wp X a) (pe_wp X b) hm) ?_
  refine bindP (Ra := RelE X.K) (wp := fun R => wpE X a σ H fun v H1 => wpE X b σ H1 fun u H2 => wpO X (compareOp op) v u H2 R) back_T (fun Q' p => two ha hb tk re ok p fun v u x y G2 H2 ok2 rx ry p => h W σ v u x y G2 H2 Q' ok2 rx ry p) post fun v x G1 H1 _ g1 rx post1 => ?_
  cases rx with
  | bl k => exact ⟨k, rfl, post1 k G1 H1 (Gr.refl g1.ok) rfl⟩
  | _ => exact post1.elim
theorem okL_post {β γ : Type} {Rel : Hp → Hp → Hp → γ → β → Prop} {W : WX} {σ : L2.St} {G H : Hp} {n : Nat} {r : Res β} {Q : γ → Hp → Prop} (p : PostG Rel TS X W σ G H (okL n r) Q) : n ≤ LIM ∧ PostG Rel TS X W σ G H r Q := by
  unfold okL at p
  split at p
  · exact ⟨by assumption, p⟩
  · exact p.elim
theorem lim_line {n : Nat} (h : n ≤ LIM) : n ≤ sizeLine := Nat.le_trans h (by decide)
end
end Pyr
set_option Elab.async false
set_option linter.all false
set_option maxRecDepth 100000
set_option maxHeartbeats 1000000
namespace Pyr
open PySem PySem.Spec PyProof.Rows L2 Evl
section
variable {TS : TabList} {X : Cx} {a b c : Expr} {fa fb fc : En → Res D} {t u : En → Res Bool} {es rest : List Expr} {fr : En → Res (List D)} {pos : Pos} {g : D → Res D} {g2 : D → D → Res D}
theorem fin1 {W : WX} {σ : L2.St} {G H : Hp} {Q : VK} {d : D} {v : V} (ok : Ok0 TS G H) (p : PostG (RelE X.K) TS X W σ G H (.ok d) Q) (r : Rp X.K G v d) : Q v H := p v G H (Gr.refl ok) r
def rCatG (K : PySem.W.Frag) : R2 := fun x y H Q => ∃ l b xs zs, x = .ref l ∧ y = .ref b ∧ SqL K H l xs ∧ SqL K H b zs ∧ xs.length + zs.length ≤ sizeLine ∧ ∀ p, H p = none → Q (.ref p) (upd H p (.lst (xs ++ zs)))
theorem op_catG : OpR X (binaryOp .Add) (rCatG X.K) := by
  intro pins s σ H x y v u Q I rx ry h
  obtain ⟨l, b, xs, zs, rfl, rfl, hl, hb, hz, q⟩ := h
  cases rx
  cases ry
  obtain ⟨is1, r1, p1, _⟩ := I.list hl
  obtain ⟨is2, r2, p2, _⟩ := I.list hb
  have l1 := r1.length
  have l2 := r2.length
  obtain ⟨⟨c1, d1, t1, s1⟩, n1, ho1, hc1, hd1, ht1⟩ := p1
  obtain ⟨⟨c2, d2, t2, s2⟩, n2, ho2, hc2, hd2, ht2⟩ := p2
  simp only at hc1 hd1 ht1 hc2 hd2 ht2
  subst hc1 hd1 ht1 hc2 hd2 ht2
  refine concat_meets ⟨_, ho1, rfl⟩ ⟨_, ho2, rfl⟩ noFill_list_add seq_list_add PySem.F.slot_list_add PySem.F.entry_list_add (PySem.F.args_list_add_2 _ _) (list_addW l b is1.toArray is2.toArray n1 n2 none none s1 s2 (by simp only [List.size_toArray]; omega)) ⟨ho1, ho2, ?_⟩
  have ea : is1.toArray ++ is2.toArray = (is1 ++ is2).toArray := by simp
  rw [ea]
  exact ⟨.ref _, _, I.lnew (t' := s.toks) (r1.append r2) (by rw [List.length_append]; omega), rfl, q _ I.fresh⟩
theorem Rp.list_inv {K : PySem.W.Frag} {G : Hp} {v : V} {ds : List D} (r : Rp K G v (.list ds)) : ∃ a xs, v = .ref a ∧ SqL K G a xs ∧ Rps K G xs ds := by
  cases r with
  | lst h r => exact ⟨_, _, rfl, h, r⟩
theorem Rp.tup_inv' {K : PySem.W.Frag} {G : Hp} {v : V} {ds : List D} (r : Rp K G v (.tuple ds)) : ∃ a xs, v = .ref a ∧ SqT K G a xs ∧ Rps K G xs ds := by
  cases r with
  | tup h r => exact ⟨_, _, rfl, h, r⟩
theorem od_add : OpD TS X (binaryOp .Add) addD := by
  refine ⟨?_⟩
  intro W σ v u x y G H Q ok rx ry p
  unfold addD at p
  split at p
  · cases rx
    cases ry
    exact wpO_of op_add ⟨_, _, rfl, rfl, fin1 ok p (.int _)⟩
  · cases rx
    cases ry
    obtain ⟨h, p⟩ := okL_post p
    exact wpO_of op_add_str ⟨_, _, rfl, rfl, lim_line h, fin1 ok p (.str _)⟩
  · obtain ⟨h, p⟩ := okL_post p
    obtain ⟨l, as, rfl, hl, r1⟩ := rx.list_inv
    obtain ⟨b, bs, rfl, hb, r2⟩ := ry.list_inv
    refine wpO_of op_catG ⟨l, b, as, bs, rfl, rfl, ex_l ok.le hl, ex_l ok.le hb, lim_line (by rw [r1.len, r2.len]; exact h), fun q hq => ?_⟩
    have g := Gr.new (o := .lst (as ++ bs)) ok hq
    exact p _ _ _ g (.lst (.inl (.inl upd_same)) ((r1.app r2).mono g.g))
  · obtain ⟨h, p⟩ := okL_post p
    obtain ⟨l, as, rfl, hl, r1⟩ := rx.tup_inv'
    obtain ⟨b, bs, rfl, hb, r2⟩ := ry.tup_inv'
    refine wpO_of op_catA ⟨l, b, as, bs, rfl, rfl, ex_t ok.le hl, ex_t ok.le hb, lim_line (by rw [r1.len, r2.len]; exact h), fun e => ?_, fun _ e => ?_, fun _ _ q hq => ?_⟩
    · subst e
      cases r1
      exact fin1 ok p (.tup hb r2)
    · subst e
      cases r2
      rw [List.append_nil] at p
      exact fin1 ok p (.tup hl r1)
    · have g := Gr.new (o := .tup (as ++ bs)) ok hq
      exact p _ _ _ g (.tup (.inl (.inl upd_same)) ((r1.app r2).mono g.g))
  · exact p.elim
theorem od_sub : OpD TS X (binaryOp .Sub) subD := by
  refine ⟨?_⟩
  intro W σ v u x y G H Q ok rx ry p
  unfold subD at p
  split at p
  · cases rx
    cases ry
    exact wpO_of op_sub ⟨_, _, rfl, rfl, fin1 ok p (.int _)⟩
  · exact p.elim
theorem od_mul : OpD TS X (binaryOp .Mult) mulD := by
  refine ⟨?_⟩
  intro W σ v u x y G H Q ok rx ry p
  unfold mulD at p
  split at p
  · cases rx
    cases ry
    split at p
    · rename_i h
      exact wpO_of op_mul ⟨_, _, rfl, rfl, h, fin1 ok p (.int _)⟩
    · exact p.elim
  · exact p.elim
theorem od_fdiv : OpD TS X (binaryOp .FloorDiv) fdivD := by
  refine ⟨?_⟩
  intro W σ v u x y G H Q ok rx ry p
  unfold fdivD at p
  split at p
  · cases rx
    cases ry
    split at p
    · rename_i h
      exact wpO_of op_fdivN ⟨_, _, rfl, rfl, h, fin1 ok p (.int _)⟩
    · exact p.elim
  · exact p.elim
theorem od_mod : OpD TS X (binaryOp .Mod) modD := by
  refine ⟨?_⟩
  intro W σ v u x y G H Q ok rx ry p
  unfold modD at p
  split at p
  · cases rx
    cases ry
    split at p
    · rename_i h
      exact wpO_of op_modN ⟨_, _, rfl, rfl, h, fin1 ok p (.int _)⟩
    · exact p.elim
  · exact p.elim
theorem od_pow : OpD TS X (binaryOp .Pow) powD := by
  refine ⟨?_⟩
  intro W σ v u x y G H Q ok rx ry p
  unfold powD at p
  split at p
  · cases rx
    cases ry
    split at p
    · rename_i h
      exact wpO_of op_pow ⟨_, _, rfl, rfl, h, fin1 ok p (.int _)⟩
    · exact p.elim
  · exact p.elim
theorem de_neg (ha : DE TS X a fa) : DE TS X (.UnaryOp .USub a pos) (e1 negD fa) := by
  refine ⟨?_⟩
  intro W ρ σ G H Q tk re ok post
  refine wpE_of (pe_un un_neg (pe_wp X a)) ?_
  refine bindP (wp := fun R => wpE X a σ H R) back_E (fun Q' p => ha W ρ σ G H Q' tk re ok p) post fun v x G1 H1 _ g1 rx p => ?_
  unfold negD at p
  split at p
  · cases rx
    exact ⟨_, rfl, fin1 g1.ok p (.int _)⟩
  · exact p.elim
theorem eq_eqv {K : PySem.W.Frag} {G : Hp} {v u : V} {x y : D} (rx : Rp K G v x) (ry : Rp K G u y) (h : scaD x y = true) : scal v u = true ∧ decide (v = u) = PyData.eqv x y := by
  cases rx <;> cases ry <;> simp [scaD] at h <;> refine ⟨rfl, ?_⟩ <;> simp only [PyData.eqv] <;> rw [Bool.eq_iff_iff] <;> simp
theorem od_eq (C : CtE X) : OpD TS X (compareOp .Eq) eqD := by
  refine ⟨?_⟩
  intro W σ v u x y G H Q ok rx ry p
  unfold eqD at p
  split at p
  · rename_i h
    by_cases hs : scaD x y = true
    · obtain ⟨h1, h2⟩ := eq_eqv rx ry hs
      exact wpO_of op_eq ⟨h1, by rw [h2]; exact fin1 ok p (.bl _)⟩
    · rw [Bool.or_eq_true, Bool.and_eq_true] at h
      obtain ⟨hx, hy⟩ := h.resolve_left hs
      exact wpO_of (op_eqD (by have := C.un; omega)) ⟨x, y, (rx.mono ok.le).okdp hx, (ry.mono ok.le).okdp hy, okd_shaped hx, okd_shaped hy, fin1 ok p (.bl _)⟩
  · exact p.elim
theorem od_ne (C : CtE X) : OpD TS X (compareOp .NotEq) neD := by
  refine ⟨?_⟩
  intro W σ v u x y G H Q ok rx ry p
  unfold neD at p
  split at p
  · rename_i h
    by_cases hs : scaD x y = true
    · obtain ⟨h1, h2⟩ := eq_eqv rx ry hs
      exact wpO_of op_ne ⟨h1, by rw [h2]; exact fin1 ok p (.bl _)⟩
    · rw [Bool.or_eq_true, Bool.and_eq_true] at h
      obtain ⟨hx, hy⟩ := h.resolve_left hs
      exact wpO_of (op_neD (by have := C.un; omega)) ⟨x, y, (rx.mono ok.le).okdp hx, (ry.mono ok.le).okdp hy, okd_shaped hx, okd_shaped hy, fin1 ok p (.bl _)⟩
  · exact p.elim
theorem od_le : OpD TS X (compareOp .LtE) leD := by
  refine ⟨?_⟩
  intro W σ v u x y G H Q ok rx ry p
  unfold leD at p
  split at p
  · cases rx
    cases ry
    exact wpO_of op_le ⟨_, _, rfl, rfl, fin1 ok p (.bl _)⟩
  · cases rx
    cases ry
    exact wpO_of op_le_str ⟨_, _, rfl, rfl, fin1 ok p (.bl _)⟩
  · exact p.elim
theorem od_gt : OpD TS X (compareOp .Gt) gtD := by
  refine ⟨?_⟩
  intro W σ v u x y G H Q ok rx ry p
  unfold gtD at p
  split at p
  · cases rx
    cases ry
    exact wpO_of op_gt ⟨_, _, rfl, rfl, fin1 ok p (.bl _)⟩
  · cases rx
    cases ry
    exact wpO_of op_gt_str ⟨_, _, rfl, rfl, fin1 ok p (.bl _)⟩
  · exact p.elim
theorem od_ge : OpD TS X (compareOp .GtE) geD := by
  refine ⟨?_⟩
  intro W σ v u x y G H Q ok rx ry p
  unfold geD at p
  split at p
  · cases rx
    cases ry
    exact wpO_of op_ge ⟨_, _, rfl, rfl, fin1 ok p (.bl _)⟩
  · cases rx
    cases ry
    exact wpO_of op_ge_str ⟨_, _, rfl, rfl, fin1 ok p (.bl _)⟩
  · exact p.elim
theorem Rp.tup_inv {K : PySem.W.Frag} {G : Hp} {v : V} {ds : List D} (r : Rp K G v (.tuple ds)) : ∃ a xs, v = .ref a ∧ SqT K G a xs ∧ Rps K G xs ds := by
  cases r with
  | tup h r => exact ⟨_, _, rfl, h, r⟩
theorem dt_tru (ha : DE TS X a fa) (he : ∀ whole, isTrue a X.env whole = (do let v ← whole; standAt a.pos; holding [v] (truthy v)) := by intro _; rfl) : DT TS X a (tE truD fa) := by
  refine ⟨?_⟩
  intro W ρ σ G H Q tk re ok post
  refine wpT_of (pt_truth (pe_wp X a) he) ?_
  refine bindP (wp := fun R => wpE X a σ H R) back_T (fun Q' p => ha W ρ σ G H Q' tk re ok p) post fun v x G1 H1 _ g1 rx p => ?_
  have fin : ∀ {k : Bool}, PostG RelT TS X W σ G1 H1 (.ok k) Q → Q k H1 := fun {k} p => p k G1 H1 (Gr.refl g1.ok) rfl
  unfold truD at p
  split at p
  · cases rx
    exact ⟨_, rfl, fin p⟩
  · cases rx
    exact ⟨_, rfl, fin p⟩
  · cases rx
    exact ⟨_, rfl, fin p⟩
  · cases rx
    obtain ⟨h, p⟩ := okL_post p
    refine ⟨_, ⟨lim_line h, rfl⟩, ?_⟩
    have e : ∀ n : Nat, ((n : Int) != 0) = (n != 0) := fun n => by
      rw [Bool.eq_iff_iff]
      simp
    rw [e]
    exact fin p
  · obtain ⟨a, xs, rfl, h, r⟩ := rx.list_inv
    refine ⟨_, .inl ⟨xs, ex_l g1.ok.le h, rfl⟩, ?_⟩
    have e : xs.isEmpty = (List.isEmpty (by assumption : List D)) := by
      cases r <;> rfl
    rw [e]
    exact fin p
  · obtain ⟨a, xs, rfl, h, r⟩ := rx.tup_inv
    refine ⟨_, .inr (.inl ⟨xs, ex_t g1.ok.le h, rfl⟩), ?_⟩
    have e : xs.isEmpty = (List.isEmpty (by assumption : List D)) := by
      cases r <;> rfl
    rw [e]
    exact fin p
  · exact p.elim
theorem dt_not (ht : DT TS X a t) : DT TS X (.UnaryOp .Not a pos) (tNotR t) := by
  refine ⟨?_⟩
  intro W ρ σ G H Q tk re ok post
  refine wpT_of (pt_not (pt_wp X a)) ?_
  exact bindP (wp := fun R => wpT X a σ H R) back_T (fun Q' p => ht W ρ σ G H Q' tk re ok p) post fun v x G1 H1 _ g1 rx p => by
    subst rx
    exact p _ G1 H1 (Gr.refl g1.ok) rfl
def wpW (X : Cx) (e : Expr) : TT := fun σ H Q => ∀ (whole : Sem Value) (pins : List (Addr × Obj)) (s : Shared), Inv X pins σ H s → wpAny (model X.prog X.w) X.A (isTrue e X.env whole) (TP X pins σ Q) X.xe s
theorem pw_wp (X : Cx) (e : Expr) : PW X e (wpW X e) := ⟨fun whole pins s _ _ _ I h => h whole pins s I⟩
theorem wpW_of {e : Expr} {t : TT} {σ : L2.St} {H : Hp} {Q : Bool → Hp → Prop} (h : PW X e t) (q : t σ H Q) : wpW X e σ H Q := fun whole pins s I => h.run whole pins s σ H Q I q
structure DW (TS : TabList) (X : Cx) (e : Expr) (f : En → Res Bool) : Prop where
  run : ∀ (W : WX) (ρ : En) (σ : L2.St) (G H : Hp) (Q : Bool → Hp → Prop), Takes X W → RpE TS X.K G H ρ σ → Ok0 TS G H → PostG RelT TS X W σ G H (f ρ) Q → wpW X e σ H Q
instance {TS : TabList} {X : Cx} {e : Expr} {f : En → Res Bool} : CoeFun (DW TS X e f) fun _ => ∀ (W : WX) (ρ : En) (σ : L2.St) (G H : Hp) (Q : Bool → Hp → Prop), Takes X W → RpE TS X.K G H ρ σ → Ok0 TS G H → PostG RelT TS X W σ G H (f ρ) Q → wpW X e σ H Q := ⟨DW.run⟩
theorem DW.dt (h : DW TS X a t) : DT TS X a t := .mk fun W ρ σ G H Q tk re ok post => wpT_of (PW.pt (pw_wp X a)) (h W ρ σ G H Q tk re ok post)
theorem dw_and1 (h : DT TS X a t) : DW TS X (.BoolOp .And [a] pos) t := .mk fun W ρ σ G H Q tk re ok post => wpW_of (pw_and1 (pt_wp X a)) (h W ρ σ G H Q tk re ok post)
theorem dw_or1 (h : DT TS X a t) : DW TS X (.BoolOp .Or [a] pos) t := .mk fun W ρ σ G H Q tk re ok post => wpW_of (pw_or1 (pt_wp X a)) (h W ρ σ G H Q tk re ok post)
theorem dw_and (h : DT TS X a t) (h2 : DW TS X (.BoolOp .And (b :: rest) pos) u) : DW TS X (.BoolOp .And (a :: b :: rest) pos) (tAndR t u) := by
  refine ⟨?_⟩
  intro W ρ σ G H Q tk re ok post
  refine wpW_of (pw_and (pt_wp X a) (pw_wp X _)) ?_
  refine bindP (wp := fun R => wpT X a σ H R) back_T (fun Q' p => h W ρ σ G H Q' tk re ok p) post fun v x G1 H1 _ g1 rx p => ?_
  subst rx
  cases v with
  | true => exact iteT (h2 W ρ σ G1 H1 Q tk (re.mono g1) g1.ok p)
  | false => exact iteF (p _ G1 H1 (Gr.refl g1.ok) rfl)
theorem dw_or (h : DT TS X a t) (h2 : DW TS X (.BoolOp .Or (b :: rest) pos) u) : DW TS X (.BoolOp .Or (a :: b :: rest) pos) (tOrR t u) := by
  refine ⟨?_⟩
  intro W ρ σ G H Q tk re ok post
  refine wpW_of (pw_or (pt_wp X a) (pw_wp X _)) ?_
  refine bindP (wp := fun R => wpT X a σ H R) back_T (fun Q' p => h W ρ σ G H Q' tk re ok p) post fun v x G1 H1 _ g1 rx p => ?_
  subst rx
  cases v with
  | true => exact iteT (p _ G1 H1 (Gr.refl g1.ok) rfl)
  | false => exact iteF (h2 W ρ σ G1 H1 Q tk (re.mono g1) g1.ok p)
def eAnd (fa fb : En → Res D) : En → Res D := fun ρ => (fa ρ).bind fun x => (boolD x).bind fun k => if k then fb ρ else .ok (.bool false)
def eOr (fa fb : En → Res D) : En → Res D := fun ρ => (fa ρ).bind fun x => (boolD x).bind fun k => if k then .ok (.bool true) else fb ρ
def eNot (fa : En → Res D) : En → Res D := fun ρ => (fa ρ).bind fun x => (boolD x).bind fun k => .ok (.bool (!k))
theorem de_one {op : BoolOp} (h : DE TS X a fa) : DE TS X (.BoolOp op [a] pos) fa := .mk fun W ρ σ G H Q tk re ok post => wpE_of (pe_one (pe_wp X a)) (h W ρ σ G H Q tk re ok post)
theorem de_and (h : DE TS X a fa) (h2 : DE TS X (.BoolOp .And (b :: rest) pos) fb) : DE TS X (.BoolOp .And (a :: b :: rest) pos) (eAnd fa fb) := by
  refine ⟨?_⟩
  intro W ρ σ G H Q tk re ok post
  refine wpE_of (pe_and (pe_wp X a) (pe_wp X _)) ?_
  refine bindP (wp := fun R => wpE X a σ H R) back_E (fun Q' p => h W ρ σ G H Q' tk re ok p) post fun v x G1 H1 _ g1 rx p => ?_
  cases rx with
  | bl k =>
    refine ⟨k, rfl, ?_⟩
    cases k with
    | true => exact iteT (h2 W ρ σ G1 H1 Q tk (re.mono g1) g1.ok p)
    | false => exact iteF (fin1 g1.ok p (.bl _))
  | _ => exact p.elim
theorem de_not (h : DE TS X a fa) : DE TS X (.UnaryOp .Not a pos) (eNot fa) := by
  refine ⟨?_⟩
  intro W ρ σ G H Q tk re ok post
  refine wpE_of (pe_not (pe_wp X a)) ?_
  refine bindP (wp := fun R => wpE X a σ H R) back_E (fun Q' p => h W ρ σ G H Q' tk re ok p) post fun v x G1 H1 _ g1 rx p => ?_
  cases rx with
  | bl k => exact ⟨k, rfl, fin1 g1.ok p (.bl _)⟩
  | _ => exact p.elim
theorem de_if (ht : DT TS X c t) (ha : DE TS X a fa) (hb : DE TS X b fb) : DE TS X (.IfExp c a b pos) (eIf t fa fb) := by
  refine ⟨?_⟩
  intro W ρ σ G H Q tk re ok post
  refine wpE_of (pe_ifExp (pt_wp X c) (pe_wp X a) (pe_wp X b)) ?_
  refine bindP (wp := fun R => wpT X c σ H R) back_E (fun Q' p => ht W ρ σ G H Q' tk re ok p) post fun v x G1 H1 _ g1 rx p => ?_
  subst rx
  cases v with
  | true => exact iteT (ha W ρ σ G1 H1 Q tk (re.mono g1) g1.ok p)
  | false => exact iteF (hb W ρ σ G1 H1 Q tk (re.mono g1) g1.ok p)
def eChain (g g' : D → D → Res D) (fa fb fc : En → Res D) : En → Res D := fun ρ => (fa ρ).bind fun x => (fb ρ).bind fun y => (g x y).bind fun z => (boolD z).bind fun k => if k then (fc ρ).bind fun w => g' y w else .ok (.bool false)
theorem chain_ok {op op' : CmpOp} {g g' : D → D → Res D} {W : WX} {ρ : En} {σ : L2.St} {G H : Hp} {Q : VK} (o1 : OpD TS X (compareOp op) g) (o2 : OpD TS X (compareOp op') g') (ha : DE TS X a fa) (hb : DE TS X b fb) (hc : DE TS X c fc)
    (tk : Takes X W) (re : RpE TS X.K G H ρ σ) (ok : Ok0 TS G H) (post : PostG (RelE X.K) TS X W σ G H (eChain g g' fa fb fc ρ) Q) : tChain (wpO X (compareOp op)) (wpO X (compareOp op')) (wpE X a) (wpE X b) (wpE X c) σ H Q := by
  refine bindP (wp := fun R => wpE X a σ H R) back_E (fun Q' p => ha W ρ σ G H Q' tk re ok p) post fun v x G1 H1 _ g1 rx p => ?_
  refine bindP (wp := fun R => wpE X b σ H1 R) back_E (fun Q' q => hb W ρ σ G1 H1 Q' tk (re.mono g1) g1.ok q) p fun u y G2 H2 _ g2 ry p => ?_
  refine bindP (wp := fun R => wpO X (compareOp op) v u H2 R) back_E (fun Q' q => o1 W σ v u x y G2 H2 Q' g2.ok (rx.mono g2.g) ry q) p fun z zd G3 H3 _ g3 rz p => ?_
  cases rz with
  | bl k =>
    refine ⟨k, rfl, ?_⟩
    cases k with
    | true =>
      refine iteT (bindP (wp := fun R => wpE X c σ H3 R) back_E (fun Q' q => hc W ρ σ G3 H3 Q' tk (((re.mono g1).mono g2).mono g3) g3.ok q) p fun w' wd G4 H4 _ g4 rw' p => ?_)
      exact o2 W σ u w' y wd G4 H4 Q g4.ok ((ry.mono g3.g).mono g4.g) rw' p
    | false => exact iteF (fin1 g3.ok p (.bl _))
  | _ => exact p.elim
theorem dt_chain {op op' : CmpOp} {g g' : D → D → Res D} (o1 : OpD TS X (compareOp op) g) (o2 : OpD TS X (compareOp op') g') (ha : DE TS X a fa) (hb : DE TS X b fb) (hc : DE TS X c fc) (hm : lastMarks [op, op'] [b, c] = false := by with_unfolding_all rfl) :
    DT TS X (.Compare a [op, op'] [b, c] pos) (tE boolD (eChain g g' fa fb fc)) := by
  refine ⟨?_⟩
  intro W ρ σ G H Q tk re ok post
  refine wpT_of (pt_chain (opr_wp _) (opr_wp _) (pe_wp X a) (pe_wp X b) (pe_wp X c) hm) ?_
  refine bindP (Ra := RelE X.K) (wp := fun R => tChain (wpO X (compareOp op)) (wpO X (compareOp op')) (wpE X a) (wpE X b) (wpE X c) σ H R) back_T (fun Q' p => chain_ok o1 o2 ha hb hc tk re ok p) post fun v x G1 H1 _ g1 rx p => ?_
  cases rx with
  | bl k => exact ⟨k, rfl, p k G1 H1 (Gr.refl g1.ok) rfl⟩
  | _ => exact p.elim
theorem da_nil : DA TS X [] a0 := by
  refine ⟨?_⟩
  intro W ρ σ G H Q tk re ok post
  exact wpA_of pa_nil (post [] G H (Gr.refl ok) .nil)
theorem da_cons (ha : DE TS X a fa) (hr : DA TS X es fr) (hs : starEach (a :: es) X.env = (false, eval a X.env) :: starEach es X.env := by rfl) : DA TS X (a :: es) (aC fa fr) := by
  refine ⟨?_⟩
  intro W ρ σ G H Q tk re ok post
  refine wpA_of (pa_cons (pe_wp X a) (pa_wp X es) hs) ?_
  refine bindP (wp := fun R => wpE X a σ H R) back_A (fun Q' p => ha W ρ σ G H Q' tk re ok p) post fun v x G1 H1 _ g1 rx p => ?_
  refine bindP (wp := fun R => wpA X es σ H1 R) back_A (fun Q' q => hr W ρ σ G1 H1 Q' tk (re.mono g1) g1.ok q) p fun vs xs G2 H2 _ g2 rxs p => ?_
  exact p _ G2 H2 (Gr.refl g2.ok) (.cons (rx.mono g2.g) rxs)
def tupD (ds : List D) : Res D := okL ds.length (.ok (.tuple ds))
theorem de_tup {x1} (ha : DA TS X es fr) : DE TS X (.Tuple es x1 pos) (eN tupD fr) := by
  refine ⟨?_⟩
  intro W ρ σ G H Q tk re ok post
  refine wpE_of (pe_tup (pa_wp X es)) ?_
  refine bindP (wp := fun R => wpA X es σ H R) back_E (fun Q' p => ha W ρ σ G H Q' tk re ok p) post fun vs xs G1 H1 _ g1 rxs p => ?_
  obtain ⟨h, p⟩ := okL_post p
  refine ⟨lim_line (by rw [rxs.len]; exact h), fun q hq => ?_⟩
  have g := Gr.new (o := .tup vs) g1.ok hq
  exact p _ _ _ g (.tup (.inl (.inl upd_same)) (rxs.mono g.g))
def lN (fr : En → Res (List D)) : En → Res (List D) := fun ρ => (fr ρ).bind fun ds => okL ds.length (.ok ds)
theorem dl_lst (ha : DA TS X es fr) : DL TS X (.List es pos) (lN fr) := by
  refine ⟨?_⟩
  intro W ρ σ G H Q tk re ok post
  refine wpE_of (pe_lst (pa_wp X es)) ?_
  refine bindP (wp := fun R => wpA X es σ H R) back_L (fun Q' p => ha W ρ σ G H Q' tk re ok p) post fun vs xs G1 H1 _ g1 rxs p => ?_
  obtain ⟨h, p⟩ := okL_post p
  refine ⟨lim_line (by rw [rxs.len]; exact h), fun q hq => ?_⟩
  exact p _ _ _ (Gr.own (o := .lst vs) g1.ok hq) ⟨q, vs, rfl, hq, fresh_back g1.ok.le hq, upd_same, rxs⟩
theorem atI_rel {K : PySem.W.Frag} {G : Hp} {xs : List V} {ds : List D} {i : Int} {d : D} (r : Rps K G xs ds) (h : atI ds i = some d) : ∃ v, atI xs i = some v ∧ Rp K G v d := by
  unfold atI at h ⊢
  rw [r.len]
  cases e : ixN ds.length i with
  | none =>
    rw [e] at h
    cases h
  | some j =>
    rw [e] at h
    exact r.at h
theorem de_ix (ha : DE TS X a fa) (hb : DE TS X b fb) (hs : PlainIx b := by exact fun _ _ => rfl) : DE TS X (.Subscript a b pos) (e2 atD fa fb) := by
  refine ⟨?_⟩
  intro W ρ σ G H Q tk re ok post
  refine wpE_of (pe_ix ixr_wp (pe_wp X a) (pe_wp X b) hs) (two ha hb tk re ok post fun v u x y G2 H2 ok2 rx ry p => ?_)
  unfold atD at p
  split at p
  · obtain ⟨l, xs, rfl, h, r⟩ := rx.list_inv
    cases ry
    split at p
    · rename_i d hd
      obtain ⟨v, h1, h2⟩ := atI_rel r hd
      exact wpI_of ix_list ⟨l, xs, _, v, rfl, rfl, ex_l ok2.le h, h1, fin1 ok2 p h2⟩
    · exact p.elim
  · obtain ⟨l, xs, rfl, h, r⟩ := rx.tup_inv
    cases ry
    split at p
    · rename_i d hd
      obtain ⟨v, h1, h2⟩ := atI_rel r hd
      exact wpI_of ix_tup ⟨l, xs, _, v, rfl, rfl, ex_t ok2.le h, h1, fin1 ok2 p h2⟩
    · exact p.elim
  · cases rx
    cases ry
    obtain ⟨hl, p⟩ := okL_post p
    split at p
    · rename_i d hd
      exact wpI_of ix_str ⟨_, _, d, rfl, rfl, lim_line hl, hd, fin1 ok2 p (.str _)⟩
    · exact p.elim
  · exact p.elim
end
end Pyr
set_option Elab.async false
set_option linter.all false
set_option maxRecDepth 100000
set_option maxHeartbeats 1000000
namespace Pyr
open PySem PySem.Spec PyProof.Rows L2 Evl
def cutG {α : Type} (xs : List α) (lo hi : Option Int) : List α := (xs.drop (HT.sIx xs.length 0 lo)).take (HT.sIx xs.length xs.length hi - HT.sIx xs.length 0 lo)
theorem Rps.slice {K : PySem.W.Frag} {G : Hp} {xs : List V} {ds : List D} (r : Rps K G xs ds) (lo hi : Option Int) : Rps K G (cutG xs lo hi) (cutG ds lo hi) := by
  unfold cutG
  rw [r.len]
  exact (r.off _).cut _
def wpPO (X : Cx) (oe : Option Expr) : TO := match oe with
  | none => tNoPart
  | some e => tPart (wpE X e)
theorem po_wp (X : Cx) : ∀ oe : Option Expr, PO X oe (wpPO X oe)
  | none => po_none
  | some e => po_some (pe_wp X e)
def optI : D → Res (Option Int)
  | .int i => .ok (some i)
  | _ => .bad
def oNone : En → Res (Option Int) := fun _ => .ok none
def oSome (fa : En → Res D) : En → Res (Option Int) := fun ρ => (fa ρ).bind optI
abbrev RelO : Hp → Hp → Hp → Option Int → Option Int → Prop := fun _ _ _ v b => v = b
theorem back_O : Back RelO := fun _ _ _ _ _ _ _ h => h
structure DO (TS : TabList) (X : Cx) (oe : Option Expr) (f : En → Res (Option Int)) : Prop where
  run : ∀ (W : WX) (ρ : En) (σ : L2.St) (G H : Hp) (Q : Option Int → Hp → Prop), Takes X W → RpE TS X.K G H ρ σ → Ok0 TS G H → PostG RelO TS X W σ G H (f ρ) Q → wpPO X oe σ H Q
instance {TS : TabList} {X : Cx} {oe : Option Expr} {f : En → Res (Option Int)} : CoeFun (DO TS X oe f) fun _ => ∀ (W : WX) (ρ : En) (σ : L2.St) (G H : Hp) (Q : Option Int → Hp → Prop), Takes X W → RpE TS X.K G H ρ σ → Ok0 TS G H → PostG RelO TS X W σ G H (f ρ) Q → wpPO X oe σ H Q := ⟨DO.run⟩
def sliceD (x : D) (lo hi : Option Int) : Res D := match x with
  | .str z => okL z.length (.ok (.str (cutS z lo hi)))
  | .tuple ds => .ok (.tuple (cutG ds lo hi))
  | .list ds => .ok (.list (cutG ds lo hi))
  | _ => .bad
def eSlice (fa : En → Res D) (fl fh : En → Res (Option Int)) : En → Res D := fun ρ => (fa ρ).bind fun x => (fl ρ).bind fun lo => (fh ρ).bind fun hi => sliceD x lo hi
def listD : D → Res (List D)
  | .list ds => .ok ds
  | _ => .bad
def lSlice (fa : En → Res D) (fl fh : En → Res (Option Int)) : En → Res (List D) := fun ρ => (fa ρ).bind fun x => (fl ρ).bind fun lo => (fh ρ).bind fun hi => (listD x).bind fun ds => .ok (cutG ds lo hi)
section
variable {TS : TabList} {X : Cx} {a b c : Expr} {fa fb fc : En → Res D} {t u : En → Res Bool} {es rest : List Expr} {fr : En → Res (List D)} {pos p2 : Pos} {g : D → Res D} {g2 : D → D → Res D} {lo hi : Option Expr} {fl fh : En → Res (Option Int)}
theorem do_none : DO TS X none oNone := .mk fun W ρ σ G H Q tk re ok post => post none G H (Gr.refl ok) rfl
theorem do_some (ha : DE TS X a fa) : DO TS X (some a) (oSome fa) := by
  refine ⟨?_⟩
  intro W ρ σ G H Q tk re ok post
  refine bindP (wp := fun R => wpE X a σ H R) back_O (fun Q' p => ha W ρ σ G H Q' tk re ok p) post fun v x G1 H1 _ g1 rx p => ?_
  unfold optI at p
  split at p
  · cases rx
    exact ⟨_, rfl, p _ G1 H1 (Gr.refl g1.ok) rfl⟩
  · exact p.elim
theorem three {β γ : Type} {Rel : Hp → Hp → Hp → γ → β → Prop} (bk : Back Rel) {k : D → Option Int → Option Int → Res β} {W : WX} {ρ : En} {σ : L2.St} {G H : Hp} {Q : γ → Hp → Prop} {R : V → Option Int → Option Int → Hp → Prop} (ha : DE TS X a fa) (hl : DO TS X lo fl) (hh : DO TS X hi fh) (tk : Takes X W) (re : RpE TS X.K G H ρ σ) (ok : Ok0 TS G H)
    (post : PostG Rel TS X W σ G H ((fa ρ).bind fun x => (fl ρ).bind fun lo => (fh ρ).bind fun hi => k x lo hi) Q)
    (next : ∀ v x l h G2 H2, Gr TS G H G2 H2 → Rp X.K G2 v x → PostG Rel TS X W σ G2 H2 (k x l h) Q → R v l h H2) : wpE X a σ H fun v H1 => wpPO X lo σ H1 fun l H2 => wpPO X hi σ H2 fun h H3 => R v l h H3 := by
  refine bindP (wp := fun R => wpE X a σ H R) bk (fun Q' p => ha W ρ σ G H Q' tk re ok p) post fun v x G1 H1 _ g1 rx p => ?_
  refine bindP (wp := fun R => wpPO X lo σ H1 R) bk (fun Q' q => hl W ρ σ G1 H1 Q' tk (re.mono g1) g1.ok q) p fun l l' G2 H2 _ g2 rl p => ?_
  refine bindP (wp := fun R => wpPO X hi σ H2 R) bk (fun Q' q => hh W ρ σ G2 H2 Q' tk ((re.mono g1).mono g2) g2.ok q) p fun h h' G3 H3 _ g3 rh p => ?_
  subst rl
  subst rh
  exact next v x l h G3 H3 ((g1.trans g2).trans g3) ((rx.mono g2.g).mono g3.g) p
theorem de_slice (ha : DE TS X a fa) (hl : DO TS X lo fl) (hh : DO TS X hi fh) : DE TS X (.Subscript a (.Slice lo hi none p2) pos) (eSlice fa fl fh) := by
  refine ⟨?_⟩
  intro W ρ σ G H Q tk re ok post
  refine wpE_of (pe_slice slr_wp (pe_wp X a) (po_wp X lo) (po_wp X hi)) (three (Rel := RelE X.K) back_E ha hl hh tk re ok post fun v x l h G2 H2 g2 rx p => ?_)
  have ok2 := g2.ok
  unfold sliceD at p
  split at p
  · cases rx
    obtain ⟨hl, p⟩ := okL_post p
    exact wpS_of sl_str ⟨_, rfl, lim_line hl, fin1 ok2 p (.str _)⟩
  · obtain ⟨q, xs, rfl, hq, r⟩ := rx.tup_inv
    refine wpS_of sl_tupA ⟨q, xs, rfl, ex_t ok2.le hq, fun ⟨w1, w2⟩ => ?_, fun _ q' hq' => ?_⟩
    · refine fin1 ok2 p (.tup hq ?_)
      have z := r.slice l h
      unfold cutG at z
      rw [w1, w2, List.drop_zero, Nat.sub_zero, List.take_length] at z
      exact z
    · have g := Gr.new (o := .tup (cutV xs l h)) ok2 hq'
      exact p _ _ _ g (.tup (.inl (.inl upd_same)) ((r.slice l h).mono g.g))
  · obtain ⟨q, xs, rfl, hq, r⟩ := rx.list_inv
    refine wpS_of sl_list ⟨q, xs, rfl, ex_l ok2.le hq, fun q' hq' => ?_⟩
    have g := Gr.new (o := .lst (cutV xs l h)) ok2 hq'
    exact p _ _ _ g (.lst (.inl (.inl upd_same)) ((r.slice l h).mono g.g))
  · exact p.elim
structure CallD (TS : TabList) (X : Cx) (f : Value) (g : List D → Res D) : Prop where
  run : ∀ (W : WX) (σ : L2.St) (vs : List V) (ds : List D) (G H : Hp) (Q : VK), Ok0 TS G H → Rps X.K G vs ds → PostG (RelE X.K) TS X W σ G H (g ds) Q → wpC X f vs H Q
instance {TS : TabList} {X : Cx} {f : Value} {g : List D → Res D} : CoeFun (CallD TS X f g) fun _ => ∀ (W : WX) (σ : L2.St) (vs : List V) (ds : List D) (G H : Hp) (Q : VK), Ok0 TS G H → Rps X.K G vs ds → PostG (RelE X.K) TS X W σ G H (g ds) Q → wpC X f vs H Q := ⟨CallD.run⟩
structure CallL (TS : TabList) (X : Cx) (f : Value) (g : List D → Res (List D)) : Prop where
  run : ∀ (W : WX) (σ : L2.St) (vs : List V) (ds : List D) (G H : Hp) (Q : VK), Ok0 TS G H → Rps X.K G vs ds → PostG (RelL X.K) TS X W σ G H (g ds) Q → wpC X f vs H Q
instance {TS : TabList} {X : Cx} {f : Value} {g : List D → Res (List D)} : CoeFun (CallL TS X f g) fun _ => ∀ (W : WX) (σ : L2.St) (vs : List V) (ds : List D) (G H : Hp) (Q : VK), Ok0 TS G H → Rps X.K G vs ds → PostG (RelL X.K) TS X W σ G H (g ds) Q → wpC X f vs H Q := ⟨CallL.run⟩
def lF (g : List D → Res (List D)) (fa : En → Res (List D)) : En → Res (List D) := fun ρ => (fa ρ).bind g
section
variable {x : Str} {p : Pos} {id T : String} {gN : List D → Res D} {gL : List D → Res (List D)}
theorem de_callB (h : CallD TS X (.builtin id) gN) (hg : Gl X x) (hm : X.mg x = none) (hv : bootBuiltins x = some (.builtin id)) (ha : DA TS X (a :: es) fr) (hn : x ≠ "__name__" := by decide) (hdb : (x == ("__debug__" : Str)) = false := by decide)
    (he : starEach (a :: es) X.env = (false, eval a X.env) :: starEach es X.env := by rfl) (hpl : (backTo pos (starEach es X.env)).any (·.1) = false := by rfl) : DE TS X (.Call (.Name x p) (a :: es) [] pos) (eN gN fr) := by
  refine ⟨?_⟩
  intro W ρ σ G H Q tk re ok post
  refine wpE_of (pe_callB (cr_wp _) hg hm hv (pa_wp X (a :: es)) hn hdb he hpl) ?_
  exact bindP (wp := fun R => wpA X (a :: es) σ H R) back_E (fun Q' p => ha W ρ σ G H Q' tk re ok p) post fun vs ds G1 H1 _ g1 rs p => h W σ vs ds G1 H1 Q g1.ok rs p
theorem de_callTy (h : CallD TS X (.type T) gN) (hg : Gl X x) (hm : X.mg x = none) (hv : bootBuiltins x = some (.type T)) (ha : DA TS X (a :: es) fr) (hn : x ≠ "__name__" := by decide) (hdb : (x == ("__debug__" : Str)) = false := by decide)
    (he : starEach (a :: es) X.env = (false, eval a X.env) :: starEach es X.env := by rfl) (hpl : (backTo pos (starEach es X.env)).any (·.1) = false := by rfl) : DE TS X (.Call (.Name x p) (a :: es) [] pos) (eN gN fr) := by
  refine ⟨?_⟩
  intro W ρ σ G H Q tk re ok post
  refine wpE_of (pe_callTy (cr_wp _) hg hm hv (pa_wp X (a :: es)) hn hdb he hpl) ?_
  exact bindP (wp := fun R => wpA X (a :: es) σ H R) back_E (fun Q' p => ha W ρ σ G H Q' tk re ok p) post fun vs ds G1 H1 _ g1 rs p => h W σ vs ds G1 H1 Q g1.ok rs p
end
def oneD (g : D → Res D) : List D → Res D
  | [d] => g d
  | _ => .bad
theorem Rps.one_inv {K : PySem.W.Frag} {G : Hp} {vs : List V} {d : D} (r : Rps K G vs [d]) : ∃ v, vs = [v] ∧ Rp K G v d := by
  cases r with
  | cons h r =>
    cases r
    exact ⟨_, rfl, h⟩
theorem cd_len : CallD TS X (.builtin "len") (oneD lenD) := by
  refine ⟨?_⟩
  intro W σ vs ds G H Q ok rs p
  unfold oneD at p
  split at p
  · obtain ⟨v, rfl, r⟩ := rs.one_inv
    unfold lenD at p
    split at p
    · obtain ⟨q, xs, rfl, hq, r⟩ := r.list_inv
      exact wpC_of call_len_seq ⟨q, xs, rfl, .inl (ex_l ok.le hq), by rw [r.len]; exact fin1 ok p (.int _)⟩
    · obtain ⟨q, xs, rfl, hq, r⟩ := r.tup_inv
      exact wpC_of call_len_seq ⟨q, xs, rfl, .inr (ex_t ok.le hq), by rw [r.len]; exact fin1 ok p (.int _)⟩
    · cases r
      obtain ⟨h, p⟩ := okL_post p
      exact wpC_of call_len_str ⟨_, rfl, lim_line h, fin1 ok p (.int _)⟩
    · exact p.elim
  · exact p.elim
def itemsD : D → Res (List D)
  | .list ds => .ok ds
  | .tuple ds => .ok ds
  | _ => .bad
def oneL (g : D → Res (List D)) : List D → Res (List D)
  | [d] => g d
  | _ => .bad
theorem cd_tuple : CallD TS X (.type "tuple") (oneD fun d => (itemsD d).map .tuple) := by
  refine ⟨?_⟩
  intro W σ vs ds G H Q ok rs p
  unfold oneD at p
  split at p
  · obtain ⟨v, rfl, r⟩ := rs.one_inv
    rename_i d
    have p : PostG (RelE X.K) TS X W σ G H ((itemsD d).map .tuple) Q := p
    unfold itemsD at p
    split at p
    · obtain ⟨q, xs, rfl, hq, r⟩ := r.list_inv
      refine wpC_of call_tuple_of ⟨q, xs, rfl, .inl ⟨ex_l ok.le hq, fun l hl => ?_⟩⟩
      have g := Gr.new (o := .tup xs) ok hl
      exact p _ _ _ g (.tup (.inl (.inl upd_same)) (r.mono g.g))
    · obtain ⟨q, xs, rfl, hq, r⟩ := r.tup_inv
      exact wpC_of call_tuple_of ⟨q, xs, rfl, .inr ⟨ex_t ok.le hq, fin1 ok p (.tup hq r)⟩⟩
    · exact p.elim
  · exact p.elim
def tyN : D → String
  | .none => "NoneType"
  | .bool _ => "bool"
  | .int _ => "int"
  | .str _ => "str"
  | .list _ => "list"
  | .tuple _ => "tuple"
  | .dict es => if ptB es then "tuple" else "dict"
def isiB (T : String) (d : D) : Bool := tyN d == T || (T == "int" && tyN d == "bool")
def isiD (T : String) : D → Res D := fun d => .ok (.bool (isiB T d))
def KitOk (T : String) : Prop := ∀ d : D, kitB (tyN d) T = some (isiB T d)
theorem kit_all {T : String} (h : (["NoneType", "bool", "int", "str", "list", "tuple", "dict"].all fun t => decide (kitB t T = some (t == T || (T == "int" && t == "bool")))) = true) : KitOk T := fun d => by
  have m : tyN d ∈ ["NoneType", "bool", "int", "str", "list", "tuple", "dict"] := by
    cases d with
    | dict es => by_cases h : ptB es = true <;> simp [tyN, h]
    | _ => simp [tyN]
  exact of_decide_eq_true (List.all_eq_true.mp h _ m)
theorem kit_str : KitOk "str" := kit_all (by decide +kernel)
theorem kit_int : KitOk "int" := kit_all (by decide +kernel)
theorem kit_bool : KitOk "bool" := kit_all (by decide +kernel)
theorem tyX_of {K : PySem.W.Frag} {H : Hp} {v : V} {d : D} (r : Rp K H v d) : TyX K H v (.type (tyN d)) := by
  cases r with
  | non => exact .base .non
  | bl b => exact .base (.bl b)
  | int i => exact .base (.int i)
  | str x => exact .base (.str x)
  | lst h _ =>
    rcases h with (h | ⟨o, h⟩) | ⟨o, its, n, h, hc, _⟩
    · exact .base (.lst h)
    · exact .base (.frz h)
    · exact .kList h hc
  | tup h _ =>
    rcases h with (h | ⟨o, h⟩) | ⟨o, its, n, h, hc, _⟩
    · exact .base (.tup h)
    · exact .fTuple h
    · exact .kTuple h hc
  | dic h r =>
    have e : tyN (.dict _) = "dict" := if_neg (by rw [r.notPt]; exact Bool.false_ne_true)
    rw [e]
    exact .base (.dK h)
  | ptu h _ _ => exact .fTuple h
theorem de_isi {T : String} {xT : Str} {p p1 : Pos} (kt : KitOk T) (hg : Gl X "isinstance") (hm : X.mg "isinstance" = none) (hgT : Gl X xT) (hmT : X.mg xT = none) (hvT : bootBuiltins xT = some (.type T)) (ha : DE TS X a fa)
    (hnT : xT ≠ "__name__" := by decide) (hdT : (xT == ("__debug__" : Str)) = false := by decide)
    (he : starEach [a, .Name xT p1] X.env = (false, eval a X.env) :: starEach [.Name xT p1] X.env := by rfl) (he2 : starEach [.Name xT p1] X.env = (false, eval (.Name xT p1) X.env) :: starEach [] X.env := by rfl) (hpl : (backTo pos (starEach [.Name xT p1] X.env)).any (·.1) = false := by rfl) :
    DE TS X (.Call (.Name "isinstance" p) [a, .Name xT p1] [] pos) (e1 (isiD T) fa) := by
  refine ⟨?_⟩
  intro W ρ σ G H Q tk re ok post
  refine wpE_of (pe_callB call_isi hg hm (by decide +kernel) (pa_cons (pe_wp X a) (pa_cons (pe_bltn (v := .ty T) hgT hmT hvT rfl hnT hdT) pa_nil he2) he) (by decide) (by decide) he hpl) ?_
  refine bindP (wp := fun R => wpE X a σ H R) back_E (fun Q' p => ha W ρ σ G H Q' tk re ok p) post fun v x G1 H1 _ g1 rx p => ?_
  exact ⟨v, .ty T, _, _, _, rfl, .ty T, tyX_of (rx.mono g1.ok.le), kit_ty (kt x), fin1 g1.ok p (.bl _)⟩
end
inductive RpOs (K : PySem.W.Frag) (G H : Hp) : List Addr → List V → List (List D) → Prop
  | nil : RpOs K G H [] [] []
  | cons {a : Addr} {vs : List V} {ds : List D} {l : List Addr} {us : List V} {dss : List (List D)} : H a = some (.lst vs) → Rps K G vs ds → a ∉ l → RpOs K G H l us dss → RpOs K G H (a :: l) (.ref a :: us) (ds :: dss)
theorem RpOs.keep {K : PySem.W.Frag} {G G' H H' : Hp} (e : Ex G G') : ∀ {l : List Addr} {us : List V} {dss : List (List D)}, (∀ a ∈ l, ∀ vs, H a = some (.lst vs) → H' a = some (.lst vs)) → RpOs K G H l us dss → RpOs K G' H' l us dss
  | _, _, _, _, .nil => .nil
  | _, _, _, h, .cons h1 r n q => .cons (h _ (by simp) _ h1) (r.mono e) n (RpOs.keep e (fun a ha => h a (List.mem_cons_of_mem _ ha)) q)
theorem RpOs.there {K : PySem.W.Frag} {G H : Hp} : ∀ {l : List Addr} {us : List V} {dss : List (List D)}, RpOs K G H l us dss → ∀ a ∈ l, ∃ vs, H a = some (.lst vs)
  | _, _, _, .nil, a, ha => by cases ha
  | _, _, _, .cons h1 _ _ q, a, ha => by
    rcases List.mem_cons.mp ha with rfl | ha
    · exact ⟨_, h1⟩
    · exact q.there a ha
theorem RpOs.count {TS : TabList} {K : PySem.W.Frag} {H : Hp} : ∀ {l : List Addr} {us : List V} {dss : List (List D)} {G : Hp}, RpOs K G H l us dss → Ok0 TS G H → (∀ a ∈ l, G a = none) → ∃ G1, Ex G G1 ∧ Ok0 TS G1 H ∧ Rps K G1 us (dss.map .list) ∧ ∀ a, G1 a ≠ none → G a ≠ none ∨ a ∈ l
  | _, _, _, G, .nil, ok, _ => ⟨G, Ex.refl G, ok, .nil, fun _ h => .inl h⟩
  | _, _, _, G, .cons (a := a) h1 r n q, ok, h0 => by
    obtain ⟨e1, ok1⟩ := Gr.count ok (h0 a (by simp)) h1
    obtain ⟨G1, e2, ok2, rs, bk⟩ := RpOs.count (q.keep e1 fun _ _ _ h => h) ok1 fun b hb => by
      rw [upd_ne fun z => n (by rw [← z]; exact hb)]
      exact h0 b (List.mem_cons_of_mem _ hb)
    refine ⟨G1, e1.trans e2, ok2, .cons (.lst (.inl (.inl (e2 _ _ upd_same))) (r.mono (e1.trans e2))) rs, fun b hb => ?_⟩
    rcases bk b hb with h | h
    · by_cases z : b = a
      · exact .inr (List.mem_cons.mpr (.inl z))
      · rw [upd_ne z] at h
        exact .inl h
    · exact .inr (List.mem_cons_of_mem _ h)
def RelU (K : PySem.W.Frag) : Hp → Hp → Hp → V → List (List D) → Prop := fun H0 G' H' v dss => ∃ p l us, v = .ref p ∧ H0 p = none ∧ G' p = none ∧ H' p = some (.tup us) ∧ p ∉ l ∧ RpOs K G' H' l us dss ∧ ∀ a ∈ l, H0 a = none ∧ G' a = none
theorem RelU.count {TS : TabList} {K : PySem.W.Frag} {H0 G H : Hp} {v : V} {dss : List (List D)} (r : RelU K H0 G H v dss) (ok : Ok0 TS G H) : ∃ G1, Ex G G1 ∧ Ok0 TS G1 H ∧ Rp K G1 v (.tuple (dss.map .list)) ∧ ∀ a, G1 a ≠ none → G a ≠ none ∨ H0 a = none := by
  obtain ⟨p, l, us, rfl, h0, g0, hp, np, r, f⟩ := r
  obtain ⟨e1, ok1⟩ := Gr.count ok g0 hp
  obtain ⟨G1, e2, ok2, rs, bk⟩ := RpOs.count (r.keep e1 fun _ _ _ h => h) ok1 fun b hb => by
    rw [upd_ne fun z => np (by rw [← z]; exact hb)]
    exact (f b hb).2
  refine ⟨G1, e1.trans e2, ok2, .tup (.inl (.inl (e2 _ _ upd_same))) rs, fun b hb => ?_⟩
  rcases bk b hb with h | h
  · by_cases z : b = p
    · exact .inr (by rw [z]; exact h0)
    · rw [upd_ne z] at h
      exact .inl h
  · exact .inr (f b h).1
def RelM (K : PySem.W.Frag) : Hp → Hp → Hp → V → List D × D × List D → Prop := fun H0 G' H' v m => ∃ p a b w, v = .ref p ∧ H0 p = none ∧ G' p = none ∧ H' p = some (.tup [.ref a, w, .ref b]) ∧ p ∉ [a, b] ∧ RpOs K G' H' [a, b] [.ref a, .ref b] [m.1, m.2.2] ∧ Rp K G' w m.2.1 ∧ ∀ c ∈ [a, b], H0 c = none ∧ G' c = none
theorem rps_mid {K : PySem.W.Frag} {G : Hp} {u w v : V} {x d y : D} (r : Rps K G [u, v] [x, y]) (rw : Rp K G w d) : Rps K G [u, w, v] [x, d, y] := by
  cases r with
  | cons r1 r =>
    cases r with
    | cons r2 r => exact .cons r1 (.cons rw (.cons r2 r))
theorem RelM.count {TS : TabList} {K : PySem.W.Frag} {H0 G H : Hp} {v : V} {m : List D × D × List D} (r : RelM K H0 G H v m) (ok : Ok0 TS G H) : ∃ G1, Ex G G1 ∧ Ok0 TS G1 H ∧ Rp K G1 v (.tuple [.list m.1, m.2.1, .list m.2.2]) ∧ ∀ a, G1 a ≠ none → G a ≠ none ∨ H0 a = none := by
  obtain ⟨p, a, b, w, rfl, h0, g0, hp, np, r, rw, f⟩ := r
  obtain ⟨e1, ok1⟩ := Gr.count ok g0 hp
  obtain ⟨G1, e2, ok2, rs, bk⟩ := RpOs.count (r.keep e1 fun _ _ _ h => h) ok1 fun b hb => by
    rw [upd_ne fun z => np (by rw [← z]; exact hb)]
    exact (f b hb).2
  refine ⟨G1, e1.trans e2, ok2, .tup (.inl (.inl (e2 _ _ upd_same))) (rps_mid rs (rw.mono (e1.trans e2))), fun b hb => ?_⟩
  rcases bk b hb with h | h
  · by_cases z : b = p
    · exact .inr (by rw [z]; exact h0)
    · rw [upd_ne z] at h
      exact .inl h
  · exact .inr (f b h).1
inductive RV where
  | val (d : D)
  | own (ds : List D)
  | ownU (dss : List (List D))
  | ownM (xs : List D) (d : D) (ys : List D)
def RV.d : RV → D
  | .val d => d
  | .own ds => .list ds
  | .ownU dss => .tuple (dss.map .list)
  | .ownM xs d ys => .tuple [.list xs, d, .list ys]
def PostF (TS : TabList) (K : PySem.W.Frag) (mg : Str → Option Value) (G H : Hp) (r : Res RV) (Q : VK) (E : XK) : Prop := match r with
  | .alt f => ∀ i, PostF TS K mg G H (f i) Q E
  | .ok (.val d) => ∀ v G' H', Gr TS G H G' H' → Rp K G' v d → Q v H'
  | .ok (.own ds) => ∀ v G' H', Gr TS G H G' H' → RelL K H G' H' v ds → Q v H'
  | .ok (.ownU dss) => ∀ v G' H', Gr TS G H G' H' → RelU K H G' H' v dss → Q v H'
  | .ok (.ownM xs d ys) => ∀ v G' H', Gr TS G H G' H' → RelM K H G' H' v (xs, d, ys) → Q v H'
  | .exc c fs => ∀ (C : Addr) (d : Option Addr) (G' H' : Hp), mg c = some (.ref C) → Gr TS G H G' H' → ExcRep K G' H' d fs → E (.ref C) d H'
  | .bad => False
def spD (TS : TabList) (K : PySem.W.Frag) (mg : Str → Option Value) (m : List D → Res RV) : Sp := fun vs H Q E => ∃ G ds, Rps K G vs ds ∧ Ok0 TS G H ∧ PostF TS K mg G H (m ds) Q E
structure Known (TS : TabList) (P : Program) (w : World) (K : PySem.W.Frag) (mg : Str → Option Value) (base : Heap) (k : Nat) (x : Str) (ps : List Str) (m : List D → Res RV) : Prop where
  ex : ∃ f fd, FnOk P w K mg base (L2N.CX P w) k f fd ps (spD TS K mg m) ∧ mg x = some (.ref f) ∧ PySem.W.keepIn K (.ref f) = true ∧ Binds K fd ps []
def eCall (m : List D → Res RV) (fr : En → Res (List D)) : En → Res D := fun ρ => (fr ρ).bind fun ds => (m ds).map RV.d
def ownD : RV → Res (List D)
  | .own ds => .ok ds
  | _ => .bad
def lCall (m : List D → Res RV) (fr : En → Res (List D)) : En → Res (List D) := fun ρ => (fr ρ).bind fun ds => (m ds).bind ownD
section
variable {TS : TabList} {X : Cx} {a : Expr} {es : List Expr} {fr : En → Res (List D)} {pos p : Pos} {x : Str} {ps : List Str} {k k' : Nat} {m : List D → Res RV}
theorem de_call (F : Known TS X.prog X.w X.K X.mg X.base k x ps m) (hr : Room k' X.A) (hk : k ≤ k') (hg : Gl X x) (ha : DA TS X (a :: es) fr) (hdb : (x == ("__debug__" : Str)) = false := by decide)
    (he : starEach (a :: es) X.env = (false, eval a X.env) :: starEach es X.env := by rfl) (hpl : (backTo pos (starEach es X.env)).any (·.1) = false := by rfl) : DE TS X (.Call (.Name x p) (a :: es) [] pos) (eCall m fr) := by
  refine ⟨?_⟩
  intro W ρ σ G H Q tk re ok post
  obtain ⟨f, fd, F, hm, hkp, hb⟩ := F.ex
  refine wpE_of (pe_callSD F (hr.mono hk) hg hm hkp hb .nil (passAt tk) (pa_wp X (a :: es)) hdb he hpl) ?_
  refine bindP (wp := fun R => wpA X (a :: es) σ H R) back_E (fun Q' p => ha W ρ σ G H Q' tk re ok p) post fun vs ds G1 H1 _ g1 rs p => ?_
  rw [List.append_nil]
  refine ⟨G1, ds, rs, g1.ok, ?_⟩
  clear F hm
  revert p
  generalize m ds = r
  intro p
  induction r with
  | ok r =>
    cases r with
    | val d => exact p
    | own ys =>
      rintro v G' H' g ⟨q, ws, rfl, h0, g0, hp, r⟩
      obtain ⟨e1, e2⟩ := Gr.count g.ok g0 hp
      refine p _ _ H' ⟨g.g.trans e1, g.h, fun a q' => ?_, e2⟩ (.lst (.inl (.inl upd_same)) (r.mono e1))
      by_cases z : a = q
      · subst z
        exact .inr h0
      · rw [upd_ne z] at q'
        exact g.nw a q'
    | ownU dss =>
      intro v G' H' g r
      obtain ⟨G1', e1, e2, rp, bk⟩ := r.count g.ok
      exact p _ _ H' ⟨g.g.trans e1, g.h, fun a q' => (bk a q').elim (fun z => g.nw a z) .inr, e2⟩ rp
    | ownM xs d ys =>
      intro v G' H' g r
      obtain ⟨G1', e1, e2, rp, bk⟩ := r.count g.ok
      exact p _ _ H' ⟨g.g.trans e1, g.h, fun a q' => (bk a q').elim (fun z => g.nw a z) .inr, e2⟩ rp
  | exc c fs => exact p
  | bad => exact p
  | alt f ih => exact fun i => ih i (p i)
end
end Pyr
set_option Elab.async false
set_option autoImplicit false
set_option linter.all false
set_option maxRecDepth 100000
set_option maxHeartbeats 1000000
namespace Pyr
open PySem PySem.Spec PyProof.Rows L2 Evl
inductive Own where
  | lst (ds : List D)
  | set (ds : List D)
  | tup (dss : List (List D))
  | dic (es : List (D × D))
  | dil (ks : List Key) (dss : List (List D))
  | mix (xs : List D) (d : D) (ys : List D)
  | strm
  | exc (x : D)
inductive Sl where
  | emp
  | val (d : D)
  | own (o : Own)
abbrev Frm := List Sl
def Own.d : Own → Option D
  | .lst ds => some (.list ds)
  | .set ds => some (stD ds)
  | .tup dss => some (.tuple (dss.map .list))
  | .dic es => some (.dict es)
  | .dil _ _ => none
  | .mix xs d ys => some (.tuple [.list xs, d, .list ys])
  | .strm => some (stD [.bool false])
  | .exc c => some (exD c)
def purE (ρ : Frm) : En := ρ.map fun s => match s with
  | .val d => some d
  | .own (.lst ds) => some (loD ds)
  | .own (.set ds) => some (stD ds)
  | .own (.tup _) => none
  | .own (.dic _) => none
  | .own (.dil _ _) => none
  | .own (.mix _ _ _) => none
  | .own .strm => some (stD [.bool false])
  | .own (.exc c) => some (exD c)
  | .emp => none
def frzE (ρ : Frm) : En := ρ.map fun s => match s with
  | .val d => some d
  | .own o => o.d
  | .emp => none
inductive RpO (T : TabList) (K : PySem.W.Frag) (G H : Hp) : List Addr → V → Own → Prop
  | lst {a : Addr} {vs : List V} {ds : List D} : H a = some (.lst vs) → Rps K G vs ds → RpO T K G H [a] (.ref a) (.lst ds)
  | set {a : Addr} {ds : List D} : StAt T K G H a ds → RpO T K G H [a] (.ref a) (.set ds)
  | tup {p : Addr} {l : List Addr} {us : List V} {dss : List (List D)} : H p = some (.tup us) → p ∉ l → RpOs K G H l us dss → RpO T K G H (p :: l) (.ref p) (.tup dss)
  | dic {a : Addr} {kvs : List (Key × V)} {es : List (D × D)} : H a = some (.dK kvs) → RpKv K G kvs es → RpO T K G H [a] (.ref a) (.dic es)
  | dil {p : Addr} {l : List Addr} {us : List V} {ks : List Key} {dss : List (List D)} : H p = some (.dK (ks.zip us)) → ks.length = us.length → ks.Nodup → p ∉ l → RpOs K G H l us dss → RpO T K G H (p :: l) (.ref p) (.dil ks dss)
  | mix {p a b : Addr} {w : V} {xs : List D} {d : D} {ys : List D} : H p = some (.tup [.ref a, w, .ref b]) → p ∉ [a, b] → RpOs K G H [a, b] [.ref a, .ref b] [xs, ys] → Rp K G w d → RpO T K G H (p :: [a, b]) (.ref p) (.mix xs d ys)
  | strm {a : Addr} : StrAt K G a → RpO T K G H [] (.ref a) .strm
  | exc {a : Addr} {x : D} : XAt T K G a x → RpO T K G H [] (.ref a) (.exc x)
section
variable {TS : TabList} {K : PySem.W.Frag} {G H G' H' : Hp} {fp : List Addr} {v : V} {o : Own}
theorem RpO.keep (r : RpO TS K G H fp v o) (e : Ex G G') (h : ∀ a ∈ fp, ∀ u, H a = some u → isTb u = false → H' a = some u) : RpO TS K G' H' fp v o := by
  cases r with
  | lst h1 r => exact .lst (h _ (by simp) _ h1 rfl) (r.mono e)
  | set h1 => exact .set (h1.mono e fun u hu n => h _ (by simp) u hu n)
  | tup h1 n q => exact .tup (h _ (by simp) _ h1 rfl) n (q.keep e fun a ha vs hv => h a (List.mem_cons_of_mem _ ha) _ hv rfl)
  | dic h1 r => exact .dic (h _ (by simp) _ h1 rfl) (r.mono e)
  | dil h1 z d n q => exact .dil (h _ (by simp) _ h1 rfl) z d n (q.keep e fun a ha vs hv => h a (List.mem_cons_of_mem _ ha) _ hv rfl)
  | mix h1 n q r => exact .mix (h _ (by simp) _ h1 rfl) n (q.keep e fun a ha vs hv => h a (List.mem_cons_of_mem _ ha) _ hv rfl) (r.mono e)
  | strm h1 => exact .strm (h1.mono e)
  | exc h1 => exact .exc (h1.mono e)
theorem RpO.there (r : RpO TS K G H fp v o) : ∀ a ∈ fp, ∃ u, H a = some u ∧ isTb u = false := by
  cases r with
  | lst h1 r =>
    intro b hb
    rw [List.mem_singleton.mp hb]
    exact ⟨_, h1, rfl⟩
  | set h1 =>
    intro b hb
    rw [List.mem_singleton.mp hb]
    exact h1.there
  | tup h1 n q =>
    intro b hb
    rcases List.mem_cons.mp hb with rfl | hb
    · exact ⟨_, h1, rfl⟩
    · obtain ⟨vs, hv⟩ := q.there b hb
      exact ⟨_, hv, rfl⟩
  | dic h1 r =>
    intro b hb
    rw [List.mem_singleton.mp hb]
    exact ⟨_, h1, rfl⟩
  | dil h1 z d n q =>
    intro b hb
    rcases List.mem_cons.mp hb with rfl | hb
    · exact ⟨_, h1, rfl⟩
    · obtain ⟨vs, hv⟩ := q.there b hb
      exact ⟨_, hv, rfl⟩
  | mix h1 n q r =>
    intro b hb
    rcases List.mem_cons.mp hb with rfl | hb
    · exact ⟨_, h1, rfl⟩
    · obtain ⟨vs, hv⟩ := q.there b hb
      exact ⟨_, hv, rfl⟩
  | strm h1 => exact fun b hb => nomatch hb
  | exc h1 => exact fun b hb => nomatch hb
theorem ExT.at (e : ExT H H') {a : Addr} {u : HO} (h : H a = some u) (n : isTb u = false) : H' a = some u := e.same a u h fun ps z => by
  subst z
  cases n
end
structure SI (TS : TabList) (K : PySem.W.Frag) (G_0 H_0 : Hp) (ρ : Frm) (σ : L2.St) (G H : Hp) (fp : Nat → List Addr) : Prop where
  gr : Gr TS G_0 H_0 G H
  len : ρ.length = σ.length
  val : ∀ (i : Nat) (d : D), ρ[i]? = some (Sl.val d) → ∃ v, σ[i]? = some (some v) ∧ Rp K G v d
  own : ∀ (i : Nat) (o : Own), ρ[i]? = some (Sl.own o) → ∃ v, σ[i]? = some (some v) ∧ RpO TS K G H (fp i) v o
  apart : ∀ (i j : Nat) (o u : Own), ρ[i]? = some (Sl.own o) → ρ[j]? = some (Sl.own u) → i ≠ j → ∀ a ∈ fp i, a ∉ fp j
  free : ∀ (i : Nat) (o : Own), ρ[i]? = some (Sl.own o) → ∀ a ∈ fp i, G a = none ∧ H_0 a = none
def noTb (H : Hp) : Hp := fun a => match H a with
  | some o => if isTb o = true then none else some o
  | none => none
theorem noTb_some {H : Hp} {a : Addr} {u : HO} : noTb H a = some u ↔ H a = some u ∧ isTb u = false := by
  unfold noTb
  cases h : H a with
  | none => simp
  | some o =>
    cases q : isTb o with
    | true =>
      simp only [q, if_true]
      constructor
      · intro e
        cases e
      · rintro ⟨e, z⟩
        cases e
        rw [q] at z
        cases z
    | false =>
      simp only [q, Bool.false_eq_true, if_false]
      constructor
      · intro e
        cases e
        exact ⟨rfl, q⟩
      · exact fun e => e.1
theorem noTb_ex (H : Hp) : Ex (noTb H) H := fun a u h => (noTb_some.mp h).1
section
variable {TS : TabList} {K : PySem.W.Frag} {G_0 H_0 G H G1 H1 : Hp} {ρ : Frm} {σ : L2.St} {fp : Nat → List Addr}
theorem ok_noTb (k : Ok0 TS G H) : Ok0 TS (noTb H) H := ⟨noTb_ex H, k.tb, fun _ _ h => (noTb_some.mp h).2⟩
theorem ex_noTb (k : Ok0 TS G H) : Ex G (noTb H) := fun a u h => noTb_some.mpr ⟨k.le a u h, k.nt a u h⟩
theorem rpOs_frz {K : PySem.W.Frag} {G H : Hp} (e : Ex G (noTb H)) : ∀ {l : List Addr} {us : List V} {dss : List (List D)}, RpOs K G H l us dss → Rps K (noTb H) us (dss.map .list)
  | _, _, _, .nil => .nil
  | _, _, _, .cons h r _ q => .cons (.lst (.inl (.inl (noTb_some.mpr ⟨h, rfl⟩))) (r.mono e)) (rpOs_frz e q)
theorem SI.pure (s : SI TS K G_0 H_0 ρ σ G H fp) : RpE TS K G H (purE ρ) σ := ⟨by unfold purE; rw [List.length_map, s.len]; exact Nat.le_refl _, fun i d h hlo => (by
  unfold purE at h
  rw [List.getElem?_map] at h
  cases e : ρ[i]? with
  | none =>
    rw [e] at h
    cases h
  | some x =>
    rw [e] at h
    cases x with
    | val d' =>
      cases h
      exact s.val i d e
    | emp => cases h
    | own o =>
      cases o with
      | lst _ =>
        cases h
        cases hlo
      | set _ =>
        cases h
        cases hlo
      | tup _ => cases h
      | dic _ => cases h
      | dil _ _ => cases h
      | mix _ _ _ => cases h
      | strm =>
        cases h
        cases hlo
      | exc _ =>
        cases h
        cases hlo), fun i ds h => (by
  unfold purE at h
  rw [List.getElem?_map] at h
  cases e : ρ[i]? with
  | none =>
    rw [e] at h
    cases h
  | some x =>
    rw [e] at h
    cases x with
    | val d' =>
      cases h
      obtain ⟨v, h1, h2⟩ := s.val i _ e
      exact absurd h2.notLo (by simp [isLo])
    | emp => cases h
    | own o =>
      obtain ⟨v, h1, h2⟩ := s.own i o e
      generalize fp i = q at h2
      cases h2 with
      | lst h3 r =>
        cases h
        exact ⟨_, _, h1, h3, r⟩
      | set h3 => cases h
      | tup h3 => cases h
      | dic h3 => cases h
      | dil h3 => cases h
      | mix h3 => cases h
      | strm h3 => cases h
      | exc h3 => cases h), fun i ds h => (by
  unfold purE at h
  rw [List.getElem?_map] at h
  cases e : ρ[i]? with
  | none =>
    rw [e] at h
    cases h
  | some x =>
    rw [e] at h
    cases x with
    | val d' =>
      cases h
      obtain ⟨v, h1, h2⟩ := s.val i _ e
      exact absurd h2.notLo (by simp [isLo])
    | emp => cases h
    | own o =>
      obtain ⟨v, h1, h2⟩ := s.own i o e
      generalize fp i = q at h2
      cases h2 with
      | lst h3 r => cases h
      | set h3 =>
        cases h
        exact ⟨_, h1, h3⟩
      | tup h3 => cases h
      | dic h3 => cases h
      | dil h3 => cases h
      | mix h3 => cases h
      | strm h3 =>
        cases h
        obtain ⟨sc, ns, z, _⟩ := h3.ex
        exact ⟨_, h1, ⟨.inr (.inr (.inr ⟨rfl, h3, sc, s.gr.ok.le _ _ z⟩))⟩⟩
      | exc h3 => cases h), fun i c h => by
  unfold purE at h
  rw [List.getElem?_map] at h
  cases e : ρ[i]? with
  | none =>
    rw [e] at h
    cases h
  | some x =>
    rw [e] at h
    cases x with
    | val d' =>
      cases h
      obtain ⟨v, h1, h2⟩ := s.val i _ e
      exact absurd h2.notLo (by simp [isLo])
    | emp => cases h
    | own o =>
      obtain ⟨v, h1, h2⟩ := s.own i o e
      generalize fp i = q at h2
      cases h2 with
      | exc h3 =>
        cases h
        exact ⟨_, h1, h3⟩
      | _ => cases h⟩
theorem SI.frz (s : SI TS K G_0 H_0 ρ σ G H fp) : RpE TS K (noTb H) H (frzE ρ) σ := ⟨by unfold frzE; rw [List.length_map, s.len]; exact Nat.le_refl _, fun i d h hlo => (by
  unfold frzE at h
  rw [List.getElem?_map] at h
  cases e : ρ[i]? with
  | none =>
    rw [e] at h
    cases h
  | some x =>
    rw [e] at h
    cases x with
    | val d' =>
      cases h
      obtain ⟨v, h1, h2⟩ := s.val i d e
      exact ⟨v, h1, h2.mono (ex_noTb s.gr.ok)⟩
    | emp => cases h
    | own o =>
      obtain ⟨v, h1, h2⟩ := s.own i o e
      generalize fp i = q at h2
      cases h2 with
      | lst h3 r =>
        cases h
        exact ⟨_, h1, .lst (.inl (.inl (noTb_some.mpr ⟨h3, rfl⟩))) (r.mono (ex_noTb s.gr.ok))⟩
      | set h3 =>
        cases h
        cases hlo
      | tup h3 n q =>
        cases h
        exact ⟨_, h1, .tup (.inl (.inl (noTb_some.mpr ⟨h3, rfl⟩))) (rpOs_frz (ex_noTb s.gr.ok) q)⟩
      | dic h3 r =>
        cases h
        exact ⟨_, h1, .dic (noTb_some.mpr ⟨h3, rfl⟩) (r.mono (ex_noTb s.gr.ok))⟩
      | dil h3 => cases h
      | mix h3 n q r =>
        cases h
        exact ⟨_, h1, .tup (.inl (.inl (noTb_some.mpr ⟨h3, rfl⟩))) (rps_mid (rpOs_frz (ex_noTb s.gr.ok) q) (r.mono (ex_noTb s.gr.ok)))⟩
      | strm =>
        cases h
        cases hlo
      | exc _ =>
        cases h
        cases hlo), fun i ds h => (by
  unfold frzE at h
  rw [List.getElem?_map] at h
  cases e : ρ[i]? with
  | none =>
    rw [e] at h
    cases h
  | some x =>
    rw [e] at h
    cases x with
    | val d' =>
      cases h
      obtain ⟨v, h1, h2⟩ := s.val i _ e
      exact absurd h2.notLo (by simp [isLo])
    | emp => cases h
    | own o =>
      cases o with
      | dic es =>
        obtain ⟨v, h1, h2⟩ := s.own i _ e
        generalize fp i = q at h2
        cases h2 with
        | dic h3 r =>
          have hn := (Rp.dic (noTb_some.mpr ⟨h3, rfl⟩) (r.mono (ex_noTb s.gr.ok))).notLo
          have h : some (PyData.dict es) = some (loD ds) := Option.some.inj h
          rw [Option.some.inj h] at hn
          exact absurd hn (by simp [isLo])
      | _ => cases h), fun i ds h => (by
  unfold frzE at h
  rw [List.getElem?_map] at h
  cases e : ρ[i]? with
  | none =>
    rw [e] at h
    cases h
  | some x =>
    rw [e] at h
    cases x with
    | val d' =>
      cases h
      obtain ⟨v, h1, h2⟩ := s.val i _ e
      exact absurd h2.notLo (by simp [isLo])
    | emp => cases h
    | own o =>
      obtain ⟨v, h1, h2⟩ := s.own i o e
      generalize fp i = q at h2
      cases h2 with
      | lst h3 r => cases h
      | set h3 =>
        cases h
        exact ⟨_, h1, h3.mono (ex_noTb s.gr.ok) fun _ hu _ => hu⟩
      | tup h3 => cases h
      | dic h3 r =>
        have hn := (Rp.dic (noTb_some.mpr ⟨h3, rfl⟩) (r.mono (ex_noTb s.gr.ok))).notLo
        have h : some (PyData.dict _) = some (stD ds) := Option.some.inj h
        rw [Option.some.inj h] at hn
        exact absurd hn (by simp [isLo])
      | dil h3 => cases h
      | mix h3 => cases h
      | strm h3 =>
        cases h
        obtain ⟨sc, ns, z, _⟩ := h3.ex
        exact ⟨_, h1, ⟨.inr (.inr (.inr ⟨rfl, h3.mono (ex_noTb s.gr.ok), sc, s.gr.ok.le _ _ z⟩))⟩⟩
      | exc h3 => cases h), fun i c h => by
  unfold frzE at h
  rw [List.getElem?_map] at h
  cases e : ρ[i]? with
  | none =>
    rw [e] at h
    cases h
  | some x =>
    rw [e] at h
    cases x with
    | val d' =>
      cases h
      obtain ⟨v, h1, h2⟩ := s.val i _ e
      exact absurd h2.notLo (by simp [isLo])
    | emp => cases h
    | own o =>
      obtain ⟨v, h1, h2⟩ := s.own i o e
      generalize fp i = q at h2
      cases h2 with
      | exc h3 =>
        cases h
        exact ⟨_, h1, h3.mono (ex_noTb s.gr.ok)⟩
      | dic h3 r =>
        have hn := (Rp.dic (noTb_some.mpr ⟨h3, rfl⟩) (r.mono (ex_noTb s.gr.ok))).notLo
        have h : some (PyData.dict _) = some (exD _) := Option.some.inj h
        rw [Option.some.inj h] at hn
        exact absurd hn (by simp [isLo])
      | _ => cases h⟩
theorem SI.grow (s : SI TS K G_0 H_0 ρ σ G H fp) (g : Gr TS G H G1 H1) : SI TS K G_0 H_0 ρ σ G1 H1 fp := by
  refine ⟨s.gr.trans g, s.len, fun i d h => ?_, fun i o h => ?_, s.apart, fun i o h a ha => ?_⟩
  · obtain ⟨v, h1, h2⟩ := s.val i d h
    exact ⟨v, h1, h2.mono g.g⟩
  · obtain ⟨v, h1, h2⟩ := s.own i o h
    exact ⟨v, h1, h2.keep g.g fun a _ u hu n => g.h.at hu n⟩
  · obtain ⟨v, h1, h2⟩ := s.own i o h
    obtain ⟨u, hu, _⟩ := h2.there a ha
    obtain ⟨z1, z2⟩ := s.free i o h a ha
    refine ⟨?_, z2⟩
    cases q : G1 a with
    | none => rfl
    | some w =>
      rcases g.nw a (by rw [q]; simp) with c | c
      · exact absurd z1 c
      · rw [hu] at c
        cases c
theorem set_at {α : Type} {l : List α} {i j : Nat} {x y : α} (h : (l.set i x)[j]? = some y) : (i = j ∧ x = y ∧ i < l.length) ∨ (i ≠ j ∧ l[j]? = some y) := by
  by_cases e : i = j
  · subst e
    by_cases hl : i < l.length
    · rw [List.getElem?_set_self hl] at h
      exact .inl ⟨rfl, Option.some.inj h, hl⟩
    · rw [List.getElem?_eq_none (by simpa using hl)] at h
      cases h
  · rw [List.getElem?_set_ne e] at h
    exact .inr ⟨e, h⟩
theorem SI.setVal {i : Nat} {d : D} {v : V} (s : SI TS K G_0 H_0 ρ σ G H fp) (r : Rp K G v d) : SI TS K G_0 H_0 (ρ.set i (.val d)) (σ.set i (some v)) G H fp := by
  refine ⟨s.gr, by simpa using s.len, fun j d' h => ?_, fun j o h => ?_, fun j l o u h1 h2 => ?_, fun j o h => ?_⟩
  · rcases set_at h with ⟨rfl, e, hl⟩ | ⟨ne, h⟩
    · cases e
      exact ⟨v, List.getElem?_set_self (by rw [← s.len]; exact hl), r⟩
    · rw [List.getElem?_set_ne ne]
      exact s.val j d' h
  · rcases set_at h with ⟨rfl, e, hl⟩ | ⟨ne, h⟩
    · cases e
    · rw [List.getElem?_set_ne ne]
      exact s.own j o h
  · rcases set_at h1 with ⟨_, e, _⟩ | ⟨_, h1⟩
    · cases e
    · rcases set_at h2 with ⟨_, e, _⟩ | ⟨_, h2⟩
      · cases e
      · exact s.apart j l o u h1 h2
  · rcases set_at h with ⟨_, e, _⟩ | ⟨_, h⟩
    · cases e
    · exact s.free j o h
def setFp (fp : Nat → List Addr) (i : Nat) (l : List Addr) : Nat → List Addr := fun j => if j = i then l else fp j
theorem setFp_same {i : Nat} {l : List Addr} : setFp fp i l i = l := if_pos rfl
theorem setFp_ne {i j : Nat} {l : List Addr} (h : i ≠ j) : setFp fp i l j = fp j := if_neg (Ne.symm h)
theorem SI.setOwn {i : Nat} {o : Own} {v : V} {l : List Addr} (s : SI TS K G_0 H_0 ρ σ G H fp) (r : RpO TS K G H l v o) (hn : ∀ a ∈ l, G a = none ∧ H_0 a = none) (hf : ∀ (j : Nat) (u : Own), ρ[j]? = some (Sl.own u) → j ≠ i → ∀ a ∈ l, a ∉ fp j) :
    SI TS K G_0 H_0 (ρ.set i (.own o)) (σ.set i (some v)) G H (setFp fp i l) := by
  refine ⟨s.gr, by simpa using s.len, fun j d' h => ?_, fun j u h => ?_, fun j m u w h1 h2 hjm => ?_, fun j u h => ?_⟩
  · rcases set_at h with ⟨rfl, e, hl⟩ | ⟨ne, h⟩
    · cases e
    · rw [List.getElem?_set_ne ne]
      exact s.val j d' h
  · rcases set_at h with ⟨rfl, e, hl⟩ | ⟨ne, h⟩
    · cases e
      exact ⟨v, List.getElem?_set_self (by rw [← s.len]; exact hl), by rw [setFp_same]; exact r⟩
    · rw [List.getElem?_set_ne ne, setFp_ne ne]
      exact s.own j u h
  · rcases set_at h1 with ⟨rfl, e, _⟩ | ⟨n1, h1⟩
    · rcases set_at h2 with ⟨rfl, e, _⟩ | ⟨n2, h2⟩
      · exact absurd rfl hjm
      · rw [setFp_same, setFp_ne n2]
        exact hf m w h2 (Ne.symm n2)
    · rcases set_at h2 with ⟨rfl, e, _⟩ | ⟨n2, h2⟩
      · rw [setFp_same, setFp_ne n1]
        exact fun a ha hb => hf j u h1 (Ne.symm n1) a hb ha
      · rw [setFp_ne n1, setFp_ne n2]
        exact s.apart j m u w h1 h2 hjm
  · rcases set_at h with ⟨rfl, e, _⟩ | ⟨ne, h⟩
    · rw [setFp_same]
      exact hn
    · rw [setFp_ne ne]
      exact s.free j u h
theorem SI.change {i : Nat} {ds ds' : List D} {a : Addr} {vs' : List V} (s : SI TS K G_0 H_0 ρ σ G H fp) (hi : ρ[i]? = some (Sl.own (.lst ds))) (ha : σ[i]? = some (some (.ref a))) (r : Rps K G vs' ds') :
    SI TS K G_0 H_0 (ρ.set i (.own (.lst ds'))) σ G (upd H a (.lst vs')) fp := by
  have hil : i < ρ.length := (List.getElem?_eq_some_iff.mp hi).1
  obtain ⟨v, hv, ro⟩ := s.own i _ hi
  rw [ha] at hv
  cases hv
  have hfp : fp i = [a] := by
    generalize hq : fp i = q at ro
    cases ro
    rfl
  have ham : a ∈ fp i := by rw [hfp]; simp
  obtain ⟨u, hu, hub⟩ := ro.there a ham
  obtain ⟨z1, z2⟩ := s.free i _ hi a ham
  have hs : σ.set i (some (.ref a)) = σ := by
    have hl : i < σ.length := by rw [← s.len]; exact hil
    have : σ[i] = some (.ref a) := by
      rw [List.getElem?_eq_getElem hl] at ha
      exact Option.some.inj ha
    rw [← this]
    exact List.set_getElem_self hl
  have keepO : ∀ b w, b ≠ a → H b = some w → upd H a (.lst vs') b = some w := fun b w n h => by rw [upd_ne n]; exact h
  have gr : Gr TS G_0 H_0 G (upd H a (.lst vs')) := by
    refine ⟨s.gr.g, ⟨fun b w h n => keepO b w (ne_of_none h z2) (s.gr.h.same b w h n), fun b h => s.gr.h.old b (upd_none h), fun P t => (s.gr.h.tb P t).upd hu hub⟩, s.gr.nw, ⟨fun b w h => keepO b w (ne_of_none h z1) (s.gr.ok.le b w h), s.gr.ok.tb.upd hu hub, s.gr.ok.nt⟩⟩
  refine ⟨gr, by simpa using s.len, fun j d' h => ?_, fun j w h => ?_, fun j m w1 w2 h1 h2 hjm => ?_, fun j w h => ?_⟩
  · rcases set_at h with ⟨rfl, e, hl⟩ | ⟨ne, h⟩
    · cases e
    · exact s.val j d' h
  · rcases set_at h with ⟨rfl, e, hl⟩ | ⟨ne, h⟩
    · cases e
      exact ⟨_, ha, by rw [hfp]; exact .lst upd_same r⟩
    · obtain ⟨v2, h1, h2⟩ := s.own j w h
      refine ⟨v2, h1, h2.keep (Ex.refl G) fun b hb w2 hw _ => keepO b w2 (fun e => ?_) hw⟩
      subst e
      exact s.apart i j _ _ hi h ne _ ham hb
  · have old : ∀ {k : Nat} {w : Own}, (ρ.set i (.own (.lst ds')))[k]? = some (Sl.own w) → ∃ w', ρ[k]? = some (Sl.own w') := fun {k w} h => by
      rcases set_at h with ⟨rfl, e, _⟩ | ⟨_, h⟩
      · exact ⟨_, hi⟩
      · exact ⟨w, h⟩
    obtain ⟨w1', h1'⟩ := old h1
    obtain ⟨w2', h2'⟩ := old h2
    exact s.apart j m w1' w2' h1' h2' hjm
  · rcases set_at h with ⟨rfl, e, _⟩ | ⟨_, h⟩
    · exact s.free i _ hi
    · exact s.free j w h
theorem SI.freeze {i : Nat} {ds : List D} (s : SI TS K G_0 H_0 ρ σ G H fp) (hi : ρ[i]? = some (Sl.own (.lst ds))) : ∃ G1, Ex G G1 ∧ SI TS K G_0 H_0 (ρ.set i (.val (.list ds))) σ G1 H fp := by
  have hil : i < ρ.length := (List.getElem?_eq_some_iff.mp hi).1
  obtain ⟨v, hv, ro⟩ := s.own i _ hi
  generalize hq : fp i = q at ro
  cases ro with
  | @lst a vs _ h1 r =>
    have ham : a ∈ fp i := by rw [hq]; simp
    obtain ⟨z1, z2⟩ := s.free i _ hi a ham
    obtain ⟨e1, e2⟩ := Gr.count s.gr.ok z1 h1
    have s2 : SI TS K G_0 H_0 (ρ.set i (.val (.list ds))) (σ.set i (some (.ref a))) (upd G a (.lst vs)) H fp := by
      refine ⟨⟨s.gr.g.trans e1, s.gr.h, fun b h => ?_, e2⟩, by simpa using s.len, fun j d' h => ?_, fun j w h => ?_, fun j m w1 w2 h1 h2 hjm => ?_, fun j w h b hb => ?_⟩
      · by_cases z : b = a
        · subst z
          exact .inr z2
        · rw [upd_ne z] at h
          exact s.gr.nw b h
      · rcases set_at h with ⟨rfl, e, hl⟩ | ⟨ne, h⟩
        · cases e
          exact ⟨_, List.getElem?_set_self (by rw [← s.len]; exact hl), .lst (.inl (.inl upd_same)) (r.mono e1)⟩
        · obtain ⟨v2, q1, q2⟩ := s.val j d' h
          rw [List.getElem?_set_ne ne]
          exact ⟨v2, q1, q2.mono e1⟩
      · rcases set_at h with ⟨rfl, e, hl⟩ | ⟨ne, h⟩
        · cases e
        · obtain ⟨v2, q1, q2⟩ := s.own j w h
          rw [List.getElem?_set_ne ne]
          exact ⟨v2, q1, q2.keep e1 fun _ _ _ h _ => h⟩
      · rcases set_at h1 with ⟨_, e, _⟩ | ⟨_, h1⟩
        · cases e
        · rcases set_at h2 with ⟨_, e, _⟩ | ⟨_, h2⟩
          · cases e
          · exact s.apart j m w1 w2 h1 h2 hjm
      · rcases set_at h with ⟨_, e, _⟩ | ⟨ne, h⟩
        · cases e
        · obtain ⟨q1, q2⟩ := s.free j w h b hb
          refine ⟨?_, q2⟩
          rw [upd_ne fun e => ?_]
          · exact q1
          · subst e
            exact s.apart i j _ _ hi h ne _ ham hb
    have hs : σ.set i (some (.ref a)) = σ := by
      have hl : i < σ.length := by rw [← s.len]; exact hil
      have : σ[i] = some (.ref a) := by
        rw [List.getElem?_eq_getElem hl] at hv
        exact Option.some.inj hv
      rw [← this]
      exact List.set_getElem_self hl
    rw [hs] at s2
    exact ⟨_, e1, s2⟩
end
end Pyr
set_option Elab.async false
set_option autoImplicit false
set_option linter.all false
set_option maxRecDepth 100000
set_option maxHeartbeats 1000000
namespace Pyr
open PySem PySem.Spec PyProof.Rows L2 Evl
theorem fun_ok {P : Program} {w : World} {K : PySem.W.Frag} {mg : Str → Option Value} {base : Heap} {X0 : CXT} {x qual : Str} {st : Stmt} {f : Addr} {fd : FuncData} {N ps : List Str} {k : Nat} {sp : Sp} (F : Fun K x qual st f fd) (S : FnScope N ps (defScope st)) (h1 : ∀ vs H Q E, sp vs H Q E → vs.length = ps.length)
    (h2 : ∀ (c : Value) (A : Around) (outer : List Env) (s : Shared) (H : Hp) (vs : List V) (Q : VK) (E : XK), Room k (A.deeper (envOfC qual (defScope st) s.heap.objs.size f c)) → sp vs H Q E →
      ∃ t, PSs (cxOf X0 P w K mg base N qual (defScope st) f c A outer s H E) (defBody st) t ∧ t { nx := fun _ H' => Q .non H', rt := Q } (L2.start N vs) H) : FnOk P w K mg base X0 (k + 1) f fd ps sp := by
  obtain ⟨_, _, _, _, _, _, c, _, _, rfl, lk, hc⟩ := F.ex
  exact fn_of lk hc S h1 fun A o s H vs Q E => h2 c A o s H vs Q E
inductive Fl where
  | next (ρ : Frm)
  | ret (r : RV)
  | brk (ρ : Frm)
  | cont (ρ : Frm)
def PostS (TS : TabList) (X : Cx) (W : WX) (G_0 H_0 Gs : Hp) (D : Ends) : Res Fl → Prop
  | .alt f => ∀ i, PostS TS X W G_0 H_0 Gs D (f i)
  | .ok (.next ρ) => ∀ (σ : L2.St) (G H : Hp) (fp : Nat → List Addr), Ex Gs G → SI TS X.K G_0 H_0 ρ σ G H fp → D.nx σ H
  | .ok (.brk ρ) => ∀ (σ : L2.St) (G H : Hp) (fp : Nat → List Addr), Ex Gs G → SI TS X.K G_0 H_0 ρ σ G H fp → D.bk σ H
  | .ok (.cont ρ) => ∀ (σ : L2.St) (G H : Hp) (fp : Nat → List Addr), Ex Gs G → SI TS X.K G_0 H_0 ρ σ G H fp → D.ct σ H
  | .ok (.ret (.val d)) => ∀ (v : V) (G H : Hp), Gr TS G_0 H_0 G H → Rp X.K G v d → D.rt v H
  | .ok (.ret (.own ds)) => ∀ (v : V) (G H : Hp), Gr TS G_0 H_0 G H → RelL X.K H_0 G H v ds → D.rt v H
  | .ok (.ret (.ownU dss)) => ∀ (v : V) (G H : Hp), Gr TS G_0 H_0 G H → RelU X.K H_0 G H v dss → D.rt v H
  | .ok (.ret (.ownM xs d ys)) => ∀ (v : V) (G H : Hp), Gr TS G_0 H_0 G H → RelM X.K H_0 G H v (xs, d, ys) → D.rt v H
  | .exc c fs => ∀ (C : Addr) (d : Option Addr) (σ : L2.St) (G H : Hp), X.mg c = some (.ref C) → Gr TS G_0 H_0 G H → ExcRep X.K G H d fs → W (.ref C) d σ H
  | .bad => False
theorem PostS.shift {TS : TabList} {X : Cx} {W : WX} {G_0 H_0 G G' : Hp} {D : Ends} {r : Res Fl} (e : Ex G G') (p : PostS TS X W G_0 H_0 G D r) : PostS TS X W G_0 H_0 G' D r := by
  induction r with
  | alt f ih => exact fun i => ih i (p i)
  | ok fl =>
    cases fl with
    | next ρ => exact fun σ G1 H fp e1 s => p σ G1 H fp (e.trans e1) s
    | brk ρ => exact fun σ G1 H fp e1 s => p σ G1 H fp (e.trans e1) s
    | cont ρ => exact fun σ G1 H fp e1 s => p σ G1 H fp (e.trans e1) s
    | ret r =>
      cases r with
      | val d => exact p
      | own ds => exact p
      | ownU dss => exact p
      | ownM xs d ys => exact p
  | exc c fs => exact p
  | bad => exact p
def wpSt (X : Cx) (st : Stmt) : TS := fun D σ H => ∀ (pins : List (Addr × Obj)) (s : Shared), Inv X pins σ H s → wpAny (model X.prog X.w) X.A (exec st X.env) (SP X pins D) X.xe s
theorem ps_wp (X : Cx) (st : Stmt) : PS X st (wpSt X st) := ⟨fun pins s _ _ _ I h => h pins s I⟩
theorem wpSt_of {X : Cx} {st : Stmt} {t : TS} {D : Ends} {σ : L2.St} {H : Hp} (h : PS X st t) (q : t D σ H) : wpSt X st D σ H := fun pins s I => h.run pins s σ H D I q
def wpSs (X : Cx) (st : List Stmt) : TS := fun D σ H => ∀ (pins : List (Addr × Obj)) (s : Shared), Inv X pins σ H s → wpAny (model X.prog X.w) X.A (execs st X.env) (SP X pins D) X.xe s
theorem pss_wp (X : Cx) (st : List Stmt) : PSs X st (wpSs X st) := ⟨fun pins s _ _ _ I h => h pins s I⟩
theorem wpSs_of {X : Cx} {st : List Stmt} {t : TS} {D : Ends} {σ : L2.St} {H : Hp} (h : PSs X st t) (q : t D σ H) : wpSs X st D σ H := fun pins s I => h.run pins s σ H D I q
structure DSt (TS : TabList) (X : Cx) (st : Stmt) (F : Frm → Res Fl) : Prop where
  run : ∀ (W : WX) (ρ : Frm) (σ : L2.St) (G_0 H_0 G H : Hp) (fp : Nat → List Addr) (D : Ends), Takes X W → SI TS X.K G_0 H_0 ρ σ G H fp → PostS TS X W G_0 H_0 G D (F ρ) → wpSt X st D σ H
instance {TS : TabList} {X : Cx} {st : Stmt} {F : Frm → Res Fl} : CoeFun (DSt TS X st F) fun _ => ∀ (W : WX) (ρ : Frm) (σ : L2.St) (G_0 H_0 G H : Hp) (fp : Nat → List Addr) (D : Ends), Takes X W → SI TS X.K G_0 H_0 ρ σ G H fp → PostS TS X W G_0 H_0 G D (F ρ) → wpSt X st D σ H := ⟨DSt.run⟩
structure DSs (TS : TabList) (X : Cx) (st : List Stmt) (F : Frm → Res Fl) : Prop where
  run : ∀ (W : WX) (ρ : Frm) (σ : L2.St) (G_0 H_0 G H : Hp) (fp : Nat → List Addr) (D : Ends), Takes X W → SI TS X.K G_0 H_0 ρ σ G H fp → PostS TS X W G_0 H_0 G D (F ρ) → wpSs X st D σ H
instance {TS : TabList} {X : Cx} {st : List Stmt} {F : Frm → Res Fl} : CoeFun (DSs TS X st F) fun _ => ∀ (W : WX) (ρ : Frm) (σ : L2.St) (G_0 H_0 G H : Hp) (fp : Nat → List Addr) (D : Ends), Takes X W → SI TS X.K G_0 H_0 ρ σ G H fp → PostS TS X W G_0 H_0 G D (F ρ) → wpSs X st D σ H := ⟨DSs.run⟩
def sNext : Frm → Res Fl := fun ρ => .ok (.next ρ)
def sSeq (F1 F2 : Frm → Res Fl) : Frm → Res Fl := fun ρ => (F1 ρ).bind fun fl => match fl with
  | .next ρ' => F2 ρ'
  | fl => .ok fl
def bare {α : Type} : Res α → Res α
  | .exc _ (_ :: _) => .bad
  | .alt f => .alt fun i => bare (f i)
  | r => r
def evP (fe : En → Res D) (ρ : Frm) : Res D := match fe (purE ρ) with
  | .bad => (bare (fe (frzE ρ))).bind fun d => if flat0 d then .ok d else .bad
  | r => r
def evL (fe : En → Res (List D)) (ρ : Frm) : Res (List D) := match fe (purE ρ) with
  | .bad => (bare (fe (frzE ρ))).bind fun ds => if ds.all flat0 then .ok ds else .bad
  | r => r
def evT (ft : En → Res Bool) (ρ : Frm) : Res Bool := bare (ft (frzE ρ))
def sIf (ft : En → Res Bool) (F1 F2 : Frm → Res Fl) : Frm → Res Fl := fun ρ => (evT ft ρ).bind fun b => if b then F1 ρ else F2 ρ
def sSet (i : Nat) (fe : En → Res D) : Frm → Res Fl := fun ρ => (evP fe ρ).bind fun d => .ok (.next (ρ.set i (.val d)))
def sSetL (i : Nat) (fe : En → Res (List D)) : Frm → Res Fl := fun ρ => (evL fe ρ).bind fun ds => .ok (.next (ρ.set i (.own (.lst ds))))
def sRet (fe : En → Res D) : Frm → Res Fl := fun ρ => (evP fe ρ).bind fun d => .ok (.ret (.val d))
def sRetL (fe : En → Res (List D)) : Frm → Res Fl := fun ρ => (evL fe ρ).bind fun ds => .ok (.ret (.own ds))
def sRetN : Frm → Res Fl := fun _ => .ok (.ret (.val .none))
def sRetO (i : Nat) : Frm → Res Fl := fun ρ => match ρ[i]? with
  | some (Sl.own (.lst ds)) => .ok (.ret (.own ds))
  | _ => .bad
def sDrop (fe : En → Res D) : Frm → Res Fl := fun ρ => (evP fe ρ).bind fun _ => .ok (.next ρ)
def sApp (i : Nat) (fe : En → Res D) : Frm → Res Fl := fun ρ => match ρ[i]? with
  | some (Sl.own (.lst ds)) => (evP fe ρ).bind fun d => okL (ds.length + 1) (.ok (.next (ρ.set i (.own (.lst (ds ++ [d]))))))
  | _ => .bad
def sPut (i : Nat) (fj fe : En → Res D) : Frm → Res Fl := fun ρ => match ρ[i]? with
  | some (Sl.own (.lst ds)) => (evP fe ρ).bind fun d => (evP fj ρ).bind fun j => match j with
    | .int k => match ixN ds.length k with
      | some n => .ok (.next (ρ.set i (.own (.lst (ds.set n d)))))
      | none => .bad
    | _ => .bad
  | _ => .bad
def sAug (i : Nat) (fe : En → Res D) : Frm → Res Fl := fun ρ => match ρ[i]? with
  | some (Sl.val (.int a)) => (evP fe ρ).bind fun d => match d with
    | .int b => .ok (.next (ρ.set i (.val (.int (a + b)))))
    | _ => .bad
  | _ => .bad
def sFrz (i : Nat) (F : Frm → Res Fl) : Frm → Res Fl := fun ρ => match ρ[i]? with
  | some (Sl.own (.lst ds)) => F (ρ.set i (.val (.list ds)))
  | _ => F ρ
section
variable {TS : TabList} {X : Cx} {W : WX} {a e c : Expr} {fe fj : En → Res D} {fl : En → Res (List D)} {ft : En → Res Bool} {F F1 F2 : Frm → Res Fl} {st : Stmt} {rest b1 b2 : List Stmt} {pos : Pos}
variable {G_0 H_0 G H G1 H1 : Hp} {ρ : Frm} {σ : L2.St} {fp : Nat → List Addr} {D : Ends}
theorem gr_noTb (k : Ok0 TS G H) (g : Gr TS (noTb H) H G1 H1) : Gr TS G H G H1 := ⟨Ex.refl G, g.h, fun _ h => .inl h, ⟨((ex_noTb k).trans g.g).trans g.ok.le, g.ok.tb, k.nt⟩⟩
theorem flat_any {K : PySem.W.Frag} {v : V} {d : Pyr.D} (h : flat0 d = true) (r : Rp K G v d) : Rp K G1 v d := by
  cases r with
  | non => exact .non
  | bl b => exact .bl b
  | int i => exact .int i
  | str x => exact .str x
  | _ => cases h
theorem flats_any {K : PySem.W.Frag} : ∀ {vs : List V} {ds : List Pyr.D}, ds.all flat0 = true → Rps K G vs ds → Rps K G1 vs ds
  | _, _, _, .nil => .nil
  | _, _, h, .cons r rs => by
    rw [List.all_cons, Bool.and_eq_true] at h
    exact .cons (flat_any h.1 r) (flats_any h.2 rs)
theorem postX_of {c : Str} {fs : List (Str × Pyr.D)} (s : SI TS X.K G_0 H_0 ρ σ G H fp) (p : PostS TS X W G_0 H_0 G D (.exc c fs)) : PostX TS X W σ G H c fs :=
  fun C d G' H' m g r => p C d σ G' H' m (s.gr.trans g) r
theorem postX_frz {c : Str} {fs : List (Str × Pyr.D)} (s : SI TS X.K G_0 H_0 ρ σ G H fp) (p : PostS TS X W G_0 H_0 G D (.exc c fs)) (hf : fs = []) : PostX TS X W σ (noTb H) H c fs := by
  subst hf
  exact fun C d G' H' m g r => p C d σ G H' m (s.gr.trans (gr_noTb s.gr.ok g)) r
theorem stP {α γ : Type} {Rel : Hp → Hp → Hp → γ → α → Prop} {r : Res α} {k : α → Res Fl} {R : γ → Hp → Prop} (s : SI TS X.K G_0 H_0 ρ σ G H fp) (p : PostS TS X W G_0 H_0 G D (r.bind k))
    (next : ∀ v x G1 H1, Gr TS G H G1 H1 → Rel H G1 H1 v x → PostS TS X W G_0 H_0 G D (k x) → R v H1) : PostG Rel TS X W σ G H r R := by
  induction r with
  | ok x => exact fun v G1 H1 g r => next v x G1 H1 g r p
  | exc c fs => exact postX_of s p
  | bad => exact p
  | alt f ih => exact fun i => ih i (p i)
theorem stB {α γ : Type} {Rel : Hp → Hp → Hp → γ → α → Prop} {r : Res α} {k : α → Res Fl} {R : γ → Hp → Prop} (s : SI TS X.K G_0 H_0 ρ σ G H fp) (p : PostS TS X W G_0 H_0 G D ((bare r).bind k))
    (next : ∀ v x G1 H1, Gr TS (noTb H) H G1 H1 → Rel H G1 H1 v x → PostS TS X W G_0 H_0 G D (k x) → R v H1) : PostG Rel TS X W σ (noTb H) H r R := by
  induction r with
  | ok x => exact fun v G1 H1 g r => next v x G1 H1 g r p
  | exc c fs =>
    cases fs with
    | nil => exact postX_frz s p rfl
    | cons _ _ => exact p.elim
  | bad => exact p
  | alt f ih => exact fun i => ih i (p i)
theorem bind_bind {α β γ : Type} {r : Res α} {k : α → Res β} {l : β → Res γ} : (r.bind k).bind l = r.bind fun x => (k x).bind l := by
  induction r with
  | alt f ih => exact congrArg Res.alt (funext ih)
  | _ => rfl
theorem evP_cases (fe : En → Res Pyr.D) (ρ : Frm) : evP fe ρ = fe (purE ρ) ∨ evP fe ρ = (bare (fe (frzE ρ))).bind fun d => if flat0 d then .ok d else .bad := by
  unfold evP
  split
  · exact .inr rfl
  · exact .inl rfl
theorem evL_cases (fe : En → Res (List Pyr.D)) (ρ : Frm) : evL fe ρ = fe (purE ρ) ∨ evL fe ρ = (bare (fe (frzE ρ))).bind fun ds => if ds.all flat0 then .ok ds else .bad := by
  unfold evL
  split
  · exact .inr rfl
  · exact .inl rfl
theorem evP_run {k : Pyr.D → Res Fl} {R : VK} (he : DE TS X e fe) (tk : Takes X W) (s : SI TS X.K G_0 H_0 ρ σ G H fp) (p : PostS TS X W G_0 H_0 G D ((evP fe ρ).bind k))
    (next : ∀ (v : V) (d : Pyr.D) (G1 H1 : Hp), Gr TS G H G1 H1 → Rp X.K G1 v d → PostS TS X W G_0 H_0 G D (k d) → R v H1) : wpE X e σ H R := by
  rcases evP_cases fe ρ with e1 | e1
  · rw [e1] at p
    exact he W (purE ρ) σ G H R tk s.pure s.gr.ok (stP s p next)
  · rw [e1, bind_bind] at p
    refine he W (frzE ρ) σ (noTb H) H R tk s.frz (ok_noTb s.gr.ok) (stB s p fun v d G1 H1 g r p => ?_)
    by_cases hf : flat0 d = true
    · rw [if_pos hf] at p
      exact next v d G H1 (gr_noTb s.gr.ok g) (flat_any hf r) p
    · rw [if_neg hf] at p
      exact p.elim
theorem evL_gen {wp : L2.St → Hp → VK → Prop} {k : List Pyr.D → Res Fl} {R : VK} (he : ∀ (W : WX) (ρ : En) (σ : L2.St) (G H : Hp) (Q : VK), Takes X W → RpE TS X.K G H ρ σ → Ok0 TS G H → PostG (RelL X.K) TS X W σ G H (fl ρ) Q → wp σ H Q) (tk : Takes X W) (s : SI TS X.K G_0 H_0 ρ σ G H fp) (p : PostS TS X W G_0 H_0 G D ((evL fl ρ).bind k))
    (next : ∀ (v : V) (ds : List Pyr.D) (G1 H1 : Hp), Gr TS G H G1 H1 → RelL X.K H G1 H1 v ds → PostS TS X W G_0 H_0 G D (k ds) → R v H1) : wp σ H R := by
  rcases evL_cases fl ρ with e1 | e1
  · rw [e1] at p
    exact he W (purE ρ) σ G H R tk s.pure s.gr.ok (stP s p next)
  · rw [e1, bind_bind] at p
    refine he W (frzE ρ) σ (noTb H) H R tk s.frz (ok_noTb s.gr.ok) (stB s p fun v ds G1 H1 g r p => ?_)
    by_cases hf : ds.all flat0 = true
    · rw [if_pos hf] at p
      obtain ⟨q, vs, rfl, h0, g0, hp, r⟩ := r
      exact next _ ds G H1 (gr_noTb s.gr.ok g) ⟨q, vs, rfl, h0, fresh_back s.gr.ok.le h0, hp, flats_any hf r⟩ p
    · rw [if_neg hf] at p
      exact p.elim
theorem evL_run {k : List Pyr.D → Res Fl} {R : VK} (he : DL TS X e fl) (tk : Takes X W) (s : SI TS X.K G_0 H_0 ρ σ G H fp) (p : PostS TS X W G_0 H_0 G D ((evL fl ρ).bind k))
    (next : ∀ (v : V) (ds : List Pyr.D) (G1 H1 : Hp), Gr TS G H G1 H1 → RelL X.K H G1 H1 v ds → PostS TS X W G_0 H_0 G D (k ds) → R v H1) : wpE X e σ H R := evL_gen he tk s p next
theorem evT_run {k : Bool → Res Fl} {R : Bool → Hp → Prop} (he : DT TS X e ft) (tk : Takes X W) (s : SI TS X.K G_0 H_0 ρ σ G H fp) (p : PostS TS X W G_0 H_0 G D ((evT ft ρ).bind k))
    (next : ∀ (b : Bool) (H1 : Hp), Gr TS G H G H1 → PostS TS X W G_0 H_0 G D (k b) → R b H1) : wpT X e σ H R := by
  unfold evT at p
  refine he W (frzE ρ) σ (noTb H) H R tk s.frz (ok_noTb s.gr.ok) (stB s p fun v b G1 H1 g r p => ?_)
  subst r
  exact next v H1 (gr_noTb s.gr.ok g) p
theorem dss_nil : DSs TS X [] sNext := .mk fun W ρ σ G_0 H_0 G H fp D tk s p => wpSs_of pss_nil (p σ G H fp (Ex.refl G) s)
theorem dss_cons (h1 : DSt TS X st F1) (h2 : DSs TS X rest F2) : DSs TS X (st :: rest) (sSeq F1 F2) := by
  refine ⟨?_⟩
  intro W ρ σ G_0 H_0 G H fp D tk s p
  refine wpSs_of (pss_cons (ps_wp X st) (pss_wp X rest)) ?_
  refine h1 W ρ σ G_0 H_0 G H fp { D with nx := wpSs X rest D } tk s ?_
  unfold sSeq at p
  revert p
  generalize F1 ρ = r
  intro p
  induction r with
  | ok fl =>
    cases fl with
    | next ρ' => exact fun σ' G' H' fp' e s' => h2 W ρ' σ' G_0 H_0 G' H' fp' D tk s' (p.shift e)
    | ret r =>
      cases r with
      | val d => exact p
      | own ds => exact p
      | ownU dss => exact p
      | ownM xs d ys => exact p
    | brk ρ' => exact p
    | cont ρ' => exact p
  | exc c fs => exact p
  | bad => exact p
  | alt f ih => exact fun i => ih i (p i)
theorem dss_one (h1 : DSt TS X st F1) : DSs TS X [st] F1 := .mk fun W ρ σ G_0 H_0 G H fp D tk s p => wpSs_of (pss_one (ps_wp X st)) (h1 W ρ σ G_0 H_0 G H fp D tk s p)
theorem dss_frz {i : Nat} (h : DSs TS X rest F) : DSs TS X rest (sFrz i F) := by
  refine ⟨?_⟩
  intro W ρ σ G_0 H_0 G H fp D tk s p
  unfold sFrz at p
  split at p
  · rename_i ds hi
    obtain ⟨G1, e, s1⟩ := s.freeze hi
    exact h W _ σ G_0 H_0 G1 H fp D tk s1 (p.shift e)
  · exact h W ρ σ G_0 H_0 G H fp D tk s p
theorem ds_if (hc : DT TS X c ft) (h1 : DSs TS X b1 F1) (h2 : DSs TS X b2 F2) : DSt TS X (.If c b1 b2 pos) (sIf ft F1 F2) := by
  refine ⟨?_⟩
  intro W ρ σ G_0 H_0 G H fp D tk s p
  refine wpSt_of (ps_if (pt_wp X c) (pss_wp X b1) (pss_wp X b2)) ?_
  refine evT_run hc tk s p fun b H1 g p => ?_
  cases b with
  | true => exact iteT (h1 W ρ σ G_0 H_0 G H1 fp D tk (s.grow g) p)
  | false => exact iteF (h2 W ρ σ G_0 H_0 G H1 fp D tk (s.grow g) p)
theorem ds_set (i : Nat) {x : Str} {pos' : Pos} (he : DE TS X e fe) (C : CtE X) (hi : X.N[i]? = some x := by rfl) (hx : Loc X.env.scope x := by first | exact Or.inl rfl | exact Or.inr rfl) (hs : swapsWith e (some (.Name x pos')) pos.line X.env = pure false := by rfl) (hf : X.fn x = true ∨ X.env.scope.names.lookup x = some .local := by first | exact .inl rfl | exact .inr rfl) :
    DSt TS X (.Assign [.Name x pos'] e pos) (sSet i fe) := by
  refine ⟨?_⟩
  intro W ρ σ G_0 H_0 G H fp D tk s p
  refine wpSt_of (ps_set C.nd hi hx (pe_wp X e) hs hf) ?_
  exact evP_run he tk s p fun v d G1 H1 g r p => p _ G1 H1 fp g.g ((s.grow g).setVal r)
theorem SI.storeL {i : Nat} {v : V} {ds : List Pyr.D} (s : SI TS X.K G_0 H_0 ρ σ G H fp) (g : Gr TS G H G1 H1) (r : RelL X.K H G1 H1 v ds) : ∃ fp', SI TS X.K G_0 H_0 (ρ.set i (.own (.lst ds))) (σ.set i (some v)) G1 H1 fp' := by
  obtain ⟨q, vs, rfl, h0, g0, hp, r⟩ := r
  refine ⟨_, (s.grow g).setOwn (.lst hp r) (fun a ha => ?_) fun j u hj _ a ha hb => ?_⟩
  · rw [List.mem_singleton.mp ha]
    exact ⟨g0, s.gr.h.old q h0⟩
  · rw [List.mem_singleton.mp ha] at hb
    obtain ⟨v2, _, h2⟩ := s.own j u hj
    obtain ⟨w, hw, _⟩ := h2.there q hb
    rw [h0] at hw
    cases hw
theorem ds_setL (i : Nat) {x : Str} {pos' : Pos} (he : DL TS X e fl) (C : CtE X) (hi : X.N[i]? = some x := by rfl) (hx : Loc X.env.scope x := by first | exact Or.inl rfl | exact Or.inr rfl) (hs : swapsWith e (some (.Name x pos')) pos.line X.env = pure false := by rfl) (hf : X.fn x = true ∨ X.env.scope.names.lookup x = some .local := by first | exact .inl rfl | exact .inr rfl) :
    DSt TS X (.Assign [.Name x pos'] e pos) (sSetL i fl) := by
  refine ⟨?_⟩
  intro W ρ σ G_0 H_0 G H fp D tk s p
  refine wpSt_of (ps_set C.nd hi hx (pe_wp X e) hs hf) ?_
  refine evL_run he tk s p fun v ds G1 H1 g r p => ?_
  obtain ⟨fp', s'⟩ := s.storeL (i := i) g r
  exact p _ G1 H1 fp' g.g s'
theorem ds_ret (he : DE TS X e fe) : DSt TS X (.Return (some e) pos) (sRet fe) := by
  refine ⟨?_⟩
  intro W ρ σ G_0 H_0 G H fp D tk s p
  refine wpSt_of (ps_ret (pe_wp X e)) ?_
  exact evP_run he tk s p fun v d G1 H1 g r p => p v G1 H1 (s.gr.trans g) r
theorem ds_retL (he : DL TS X e fl) : DSt TS X (.Return (some e) pos) (sRetL fl) := by
  refine ⟨?_⟩
  intro W ρ σ G_0 H_0 G H fp D tk s p
  refine wpSt_of (ps_ret (pe_wp X e)) ?_
  refine evL_run he tk s p fun v ds G1 H1 g r p => ?_
  obtain ⟨q, vs, rfl, h0, g0, hp, r⟩ := r
  exact p _ G1 H1 (s.gr.trans g) ⟨q, vs, rfl, s.gr.h.old q h0, g0, hp, r⟩
theorem own_at {i : Nat} {ds : List Pyr.D} (s : SI TS X.K G_0 H_0 ρ σ G H fp) (hi : ρ[i]? = some (Sl.own (.lst ds))) : ∃ q vs, σ[i]? = some (some (.ref q)) ∧ H q = some (.lst vs) ∧ Rps X.K G vs ds ∧ G q = none ∧ H_0 q = none := by
  obtain ⟨v, hv, ro⟩ := s.own i _ hi
  have hfr := s.free i _ hi
  generalize fp i = l at ro hfr
  cases ro with
  | lst h r =>
    obtain ⟨z1, z2⟩ := hfr _ (List.mem_singleton.mpr rfl)
    exact ⟨_, _, hv, h, r, z1, z2⟩
theorem ds_retO (i : Nat) {x : Str} {pos' : Pos} (hN : X.N[i]? = some x := by rfl) (hv : Vis X.env.scope x := by first | exact Or.inl rfl | exact Or.inr (Or.inl rfl) | exact Or.inr (Or.inr rfl)) (hd : (x == ("__debug__" : Str)) = false := by decide) (hcd : (x == ("__classdict__" : Str)) = false := by decide) :
    DSt TS X (.Return (some (.Name x pos')) pos) (sRetO i) := by
  refine ⟨?_⟩
  intro W ρ σ G_0 H_0 G H fp D tk s p
  refine wpSt_of (ps_ret (pe_var hN hv hd hcd)) ?_
  unfold sRetO at p
  split at p
  · rename_i ds hi
    obtain ⟨q, vs, h1, h2, r, z1, z2⟩ := own_at s hi
    exact ⟨_, h1, p _ G H s.gr ⟨q, vs, rfl, z2, z1, h2, r⟩⟩
  · exact p.elim
theorem ds_app (i : Nat) {x : Str} {pos' apos cpos : Pos} (he : DE TS X e fe) (hN : X.N[i]? = some x := by rfl) (hv : Vis X.env.scope x := by first | exact Or.inl rfl | exact Or.inr (Or.inl rfl) | exact Or.inr (Or.inr rfl)) (hd : (x == ("__debug__" : Str)) = false := by decide) (hcd : (x == ("__classdict__" : Str)) = false := by decide)
    (hbase : attributeBase (.Name x pos') "append" X.env (eval (.Name x pos') X.env) = eval (.Name x pos') X.env := by rfl)
    (hfew : ((backTo cpos (starEach [e] X.env)).all (fun x => !x.1) && (backToKw cpos (keywordEach [] X.env)).all (fun x => x.1.isSome)
      && decide ([e].length + ([] : List Keyword).length + (if ([] : List Keyword).isEmpty then 0 else 1) < 30)) = true := by rfl)
    (hline : (apos.endLine == cpos.line) = true := by rfl) (hs : starEach [e] X.env = (false, eval e X.env) :: starEach [] X.env := by rfl) (hplain : (backTo cpos (starEach [] X.env)).any (·.1) = false := by rfl)
    (hsw : swapsWith (.Call (.Attribute (.Name x pos') "append" apos) [e] [] cpos) none pos.line X.env = pure false := by rfl) :
    DSt TS X (.Expr (.Call (.Attribute (.Name x pos') "append" apos) [e] [] cpos) pos) (sApp i fe) := by
  refine ⟨?_⟩
  intro W ρ σ G_0 H_0 G H fp D tk s p
  refine wpSt_of (ps_expr (pe_bm PySem.F.plainAttrs_list PySem.F.slot_list_append PySem.F.type_list_append mt_append (pe_var hN hv hd hcd) (pa_cons (pe_wp X e) pa_nil hs) hbase hfew hline hs hplain) hsw) ?_
  unfold sApp at p
  split at p
  · rename_i ds hi
    obtain ⟨q, vs, h1, h2, r, z1, z2⟩ := own_at s hi
    refine ⟨_, h1, Or.inl ⟨rfl, vs, SqL.of h2⟩, ?_⟩
    refine evP_run he tk s p fun v d G1 H1 g rv p => ?_
    have hp : ds.length + 1 ≤ LIM ∧ PostS TS X W G_0 H_0 G D (.ok (.next (ρ.set i (.own (.lst (ds ++ [d])))))) := by
      unfold okL at p
      split at p
      · exact ⟨by assumption, p⟩
      · exact p.elim
    have hq : H1 q = some (.lst vs) := g.h.at h2 rfl
    refine ⟨q, vs, v, rfl, rfl, hq, ?_, ?_⟩
    · rw [r.len]
      exact Nat.lt_of_lt_of_le hp.1 (by decide)
    · exact hp.2 σ G1 _ fp g.g ((s.grow g).change hi h1 ((r.mono g.g).app (.cons rv .nil)))
  · exact p.elim
theorem ds_put (i : Nat) {x : Str} {j : Expr} {pos' spos : Pos} (he : DE TS X e fe) (hj : DE TS X j fj) (hN : X.N[i]? = some x := by rfl) (hv : Vis X.env.scope x := by first | exact Or.inl rfl | exact Or.inr (Or.inl rfl) | exact Or.inr (Or.inr rfl)) (hd : (x == ("__debug__" : Str)) = false := by decide) (hcd : (x == ("__classdict__" : Str)) = false := by decide)
    (ha : ∀ v, assign (.Subscript (.Name x pos') j spos) X.env v = (do
      let ov ← holding [v] (eval (.Name x pos') X.env)
      let iv ← holding [v, ov] (eval j X.env)
      standAt spos
      holding [v, ov, iv] (setItem ov iv v)
      release [v, ov, iv] []) := by intro _; rfl)
    (hs : swapsWithSole [.Subscript (.Name x pos') j spos] e pos.line X.env = pure false := by rfl) (hw : swappedStores [.Subscript (.Name x pos') j spos] e X.env = pure none := by rfl)
    (h1 : (assignEach [.Subscript (.Name x pos') j spos] X.env).map (·.2) = [assign (.Subscript (.Name x pos') j spos) X.env] := by rfl) :
    DSt TS X (.Assign [.Subscript (.Name x pos') j spos] e pos) (sPut i fj fe) := by
  refine ⟨?_⟩
  intro W ρ σ G_0 H_0 G H fp D tk s p
  refine wpSt_of (ps_asg (pe_wp X e) (pg_sub (pe_var hN hv hd hcd) (pe_wp X j) set_list ha) hs hw h1) ?_
  unfold sPut at p
  split at p
  · rename_i ds hi
    refine evP_run he tk s p fun v d G1 H1 g rv p => ?_
    obtain ⟨q, vs, h1, h2, r, z1, z2⟩ := own_at (s.grow g) hi
    refine ⟨_, h1, ?_⟩
    refine evP_run hj tk (s.grow g) (p.shift g.g) fun w dj G2 H2 g2 rw' p => ?_
    cases rw' with
    | int k =>
      have p : PostS TS X W G_0 H_0 G1 D (match ixN ds.length k with
        | some n => .ok (.next (ρ.set i (.own (.lst (ds.set n d)))))
        | none => .bad) := p
      cases hx : ixN ds.length k with
      | none =>
        rw [hx] at p
        exact p.elim
      | some n =>
        rw [hx] at p
        have hq : H2 q = some (.lst vs) := g2.h.at h2 rfl
        refine ⟨q, vs, k, n, rfl, rfl, hq, by rw [r.len]; exact hx, ?_⟩
        exact p σ G2 _ fp g2.g (((s.grow g).grow g2).change hi h1 ((r.mono g2.g).put (rv.mono g2.g) n))
    | _ => exact p.elim
  · exact p.elim
theorem ds_aug (i : Nat) {x : Str} {pos' : Pos} (he : DE TS X e fe) (C : CtE X) (hi : X.N[i]? = some x := by rfl) (hx : Loc X.env.scope x := by first | exact Or.inl rfl | exact Or.inr rfl) (hf : X.fn x = true ∨ X.env.scope.names.lookup x = some .local := by first | exact .inl rfl | exact .inr rfl) :
    DSt TS X (.AugAssign (.Name x pos') .Add e pos) (sAug i fe) := by
  refine ⟨?_⟩
  intro W ρ σ G_0 H_0 G H fp D tk s p
  refine wpSt_of (ps_aug C.nd hi hx (pe_wp X e) ip_add hf) ?_
  unfold sAug at p
  split at p
  · rename_i n hn
    obtain ⟨v, h1, h2⟩ := s.val i _ hn
    cases h2
    refine ⟨_, h1, ?_⟩
    refine evP_run he tk s p fun w d G1 H1 g r p => ?_
    cases r with
    | int m => exact ⟨n, m, rfl, rfl, p _ G1 H1 fp g.g ((s.grow g).setVal (.int _))⟩
    | _ => exact p.elim
  · exact p.elim
end
def frm0 (n : Nat) (ds : List D) : Frm := ds.map Sl.val ++ List.replicate (n - ds.length) Sl.emp
def outR : Res Fl → Res RV
  | .ok (.next _) => .ok (.val .none)
  | .ok (.ret r) => .ok r
  | .exc c fs => .exc c fs
  | .alt f => .alt fun i => outR (f i)
  | _ => .bad
def defM (np n : Nat) (F : Frm → Res Fl) : List D → Res RV := fun ds => if ds.length = np then outR (F (frm0 n ds)) else .bad
theorem SI.start {TS : TabList} {K : PySem.W.Frag} {G H : Hp} {vs : List V} {ds : List D} {N : List Str} (k : Ok0 TS G H) (r : Rps K G vs ds) : SI TS K G H (frm0 N.length ds) (start N vs) G H (fun _ => []) := by
  have noOwn : ∀ {i : Nat} {o : Own}, ¬ (frm0 N.length ds)[i]? = some (Sl.own o) := fun {i o} h => by
    have m := List.mem_of_getElem? h
    unfold frm0 at m
    rcases List.mem_append.mp m with m | m
    · obtain ⟨d, _, e⟩ := List.mem_map.mp m
      cases e
    · have e := (List.mem_replicate.mp m).2
      cases e
  refine ⟨Gr.refl k, by simp [frm0, L2.start, r.len], fun i d h => ?_, fun i o h => (noOwn h).elim, fun i j o u h => (noOwn h).elim, fun i o h => (noOwn h).elim⟩
  unfold frm0 at h
  by_cases hi : i < ds.length
  · rw [List.getElem?_append_left (by simpa using hi), List.getElem?_map] at h
    cases e : ds[i]? with
    | none =>
      rw [e] at h
      cases h
    | some d' =>
      rw [e] at h
      cases h
      obtain ⟨v, h1, h2⟩ := r.at e
      refine ⟨v, ?_, h2⟩
      unfold L2.start
      have hv : i < vs.length := (List.getElem?_eq_some_iff.mp h1).1
      rw [List.getElem?_append_left (by simpa using hv), List.getElem?_map, h1]
      rfl
  · rw [List.getElem?_append_right (by simpa using Nat.le_of_not_lt hi)] at h
    have e := (List.mem_replicate.mp (List.mem_of_getElem? h)).2
    cases e
theorem room_ct {k : Nat} {A : Around} (h : Room k A) : A.units + 65 < cLine := by have := h.un; omega
end Pyr
set_option Elab.async false
set_option autoImplicit false
set_option linter.all false
set_option maxRecDepth 100000
set_option maxHeartbeats 1000000
namespace Pyr
open PySem PySem.Spec PyProof.Rows L2 Evl
def Walker (TS : TabList) (K : PySem.W.Frag) (J : It) (ds : List D) (G : Hp) : Prop := ∀ (G1 H : Hp), Ex G G1 → Ok0 TS G1 H →
  (∀ (i : Nat) (x : D), ds[i]? = some x → J.go i H ∧ ∀ v H', J.yld i H v H' → ∃ G', Gr TS G1 H G' H' ∧ Rp K G' v x) ∧ J.stop ds.length H
abbrev RelJ' (TS : TabList) (K : PySem.W.Frag) : Hp → Hp → Hp → It → List D → Prop := fun _ G' _ J ds => Walker TS K J ds G'
theorem back_J {TS : TabList} {K : PySem.W.Frag} : Back (RelJ' TS K) := fun _ _ _ _ _ _ _ h => h
def wpIt (X : Cx) (tg iter : Expr) : TI := fun σ H R => ∀ (pins : List (Addr × Obj)) (s : Shared), Inv X pins σ H s → wpAny (model X.prog X.w) X.A (eval iter X.env) (fun v s1 => wpAny (model X.prog X.w) X.A (pyIter v) (PIE X pins σ tg R) X.xe s1) X.xe s
theorem pi_wp (X : Cx) (tg iter : Expr) : PI X tg iter (wpIt X tg iter) := ⟨fun pins s _ _ _ I h => h pins s I⟩
theorem wpIt_of {X : Cx} {tg iter : Expr} {t : TI} {σ : L2.St} {H : Hp} {R : It → Hp → Prop} (h : PI X tg iter t) (q : t σ H R) : wpIt X tg iter σ H R := fun pins s I => h.run pins s σ H R I q
structure DI (TS : TabList) (X : Cx) (tg iter : Expr) (f : En → Res (List D)) : Prop where
  run : ∀ (W : WX) (ρ : En) (σ : L2.St) (G H : Hp) (R : It → Hp → Prop), Takes X W → RpE TS X.K G H ρ σ → Ok0 TS G H → PostG (RelJ' TS X.K) TS X W σ G H (f ρ) R → wpIt X tg iter σ H R
instance {TS : TabList} {X : Cx} {tg iter : Expr} {f : En → Res (List D)} : CoeFun (DI TS X tg iter f) fun _ => ∀ (W : WX) (ρ : En) (σ : L2.St) (G H : Hp) (R : It → Hp → Prop), Takes X W → RpE TS X.K G H ρ σ → Ok0 TS G H → PostG (RelJ' TS X.K) TS X W σ G H (f ρ) R → wpIt X tg iter σ H R := ⟨DI.run⟩
def signsD (x : Str) : List D := x.cps.toList.map fun c => .str ⟨#[c]⟩
def walkD : D → Res (List D)
  | .list ds => .ok ds
  | .tuple ds => .ok ds
  | .str x => .ok (signsD x)
  | _ => .bad
def iF (g : D → Res (List D)) (fa : En → Res D) : En → Res (List D) := fun ρ => (fa ρ).bind g
section
variable {TS : TabList} {X : Cx} {tg a b : Expr} {fa fb : En → Res D} {es : List Expr} {fr : En → Res (List D)} {pos : Pos}
theorem walker_list {q : Addr} {xs : List V} {ds : List D} {G : Hp} (h : SqL X.K G q xs) (r : Rps X.K G xs ds) : Walker TS X.K (Itl X.K q) ds G := by
  intro G1 H e ok
  have h1 : SqL X.K H q xs := ex_l (e.trans ok.le) h
  refine ⟨fun i x hx => ?_, ⟨xs, h1, by rw [r.len]; exact Nat.le_refl _⟩⟩
  obtain ⟨v, hv, rv⟩ := r.at hx
  refine ⟨⟨xs, v, h1, hv⟩, fun v' H' y => ?_⟩
  obtain ⟨rfl, y⟩ := y
  have e2 : some v' = some v := (y xs h1).symm.trans hv
  cases e2
  exact ⟨G1, Gr.refl ok, rv.mono e⟩
theorem walker_tup {q : Addr} {xs : List V} {ds : List D} {G : Hp} (h : SqT X.K G q xs) (r : Rps X.K G xs ds) : Walker TS X.K (Itt X.K q) ds G := by
  intro G1 H e ok
  have h1 : SqT X.K H q xs := ex_t (e.trans ok.le) h
  refine ⟨fun i x hx => ?_, ⟨xs, h1, by rw [r.len]; exact Nat.le_refl _⟩⟩
  obtain ⟨v, hv, rv⟩ := r.at hx
  refine ⟨⟨xs, v, h1, hv⟩, fun v' H' y => ?_⟩
  obtain ⟨rfl, y⟩ := y
  have e2 : some v' = some v := (y xs h1).symm.trans hv
  cases e2
  exact ⟨G1, Gr.refl ok, rv.mono e⟩
theorem walker_str {x : Str} {G : Hp} : Walker TS X.K (Its x) (signsD x) G := by
  intro G1 H e ok
  have hs : (signsD x).length = x.cps.size := by unfold signsD; simp
  refine ⟨fun i d hd => ?_, by rw [hs]; exact Nat.le_refl _⟩
  have hi : i < x.cps.size := by rw [← hs]; exact (List.getElem?_eq_some_iff.mp hd).1
  refine ⟨hi, fun v' H' y => ?_⟩
  obtain ⟨rfl, c, hc, rfl⟩ := y
  unfold signsD at hd
  rw [List.getElem?_map, Array.getElem?_toList, hc] at hd
  cases hd
  exact ⟨G1, Gr.refl ok, .str _⟩
def iSome (K : PySem.W.Frag) (te : TE) : TI := fun σ H R => te σ H fun v H1 => (∃ q, v = .ref q ∧ (∃ ys, SqL K H1 q ys) ∧ R (Itl K q) H1) ∨ (∃ q, v = .ref q ∧ (∃ ys, SqT K H1 q ys) ∧ R (Itt K q) H1) ∨ ∃ z, v = .str z ∧ R (Its z) H1
theorem pi_some {te : TE} (ha : PE X a te) : PI X tg a (iSome X.K te) := by
  constructor
  intro pins s σ H R I h
  refine thn (ha.run pins s σ H _ I h) ?_
  rintro w s1 ⟨v, H1, I1, rd, (⟨q, rfl, ⟨ys, hy⟩, hr⟩ | ⟨q, rfl, ⟨ys, hy⟩, hr⟩ | ⟨z, rfl, hr⟩)⟩
  · cases rd
    obtain ⟨its, _, lay, _⟩ := I1.list hy
    exact wpAny_pyIter_list lay.isList (pi_one (tk := s1.toks) I1 _ (turn_list q _) ⟨_, Heap.get?_push_size _ rfl, rfl, rfl⟩ hr)
  · cases rd
    obtain ⟨its, _, lay, _⟩ := I1.tuple hy
    exact wpAny_pyIter_tuple (items := its.toArray) lay (pi_one (tk := s1.toks) I1 _ (turn_tuple q _) ⟨_, Heap.get?_push_size _ rfl, rfl, rfl⟩ hr)
  · obtain ⟨t, rfl⟩ := rd
    by_cases ha : z.cps.all (· < 128) = true
    · exact wpAny_pyIter_ascii ha (pi_one (tk := s1.toks) I1 _ (turn_str _ z t "str_ascii_iterator" (.inl rfl)) ⟨_, Heap.get?_push_size _ rfl, rfl, rfl⟩ hr)
    · exact wpAny_pyIter_wide (Bool.eq_false_iff.mpr ha) (pi_one (tk := s1.toks) I1 _ (turn_str _ z t "str_iterator" (.inr rfl)) ⟨_, Heap.get?_push_size _ rfl, rfl, rfl⟩ hr)
theorem di_any (ha : DE TS X a fa) : DI TS X tg a (iF walkD fa) := by
  refine ⟨?_⟩
  intro W ρ σ G H R tk re ok post
  refine wpIt_of (pi_some (pe_wp X a)) ?_
  refine bindP (wp := fun R => wpE X a σ H R) back_J (fun Q' p => ha W ρ σ G H Q' tk re ok p) post fun v x G1 H1 _ g1 rx p => ?_
  cases x with
  | list ds =>
    obtain ⟨q, xs, rfl, hq, r⟩ := rx.list_inv
    exact .inl ⟨q, rfl, ⟨xs, ex_l g1.ok.le hq⟩, p _ G1 H1 (Gr.refl g1.ok) (walker_list hq r)⟩
  | tuple ds =>
    obtain ⟨q, xs, rfl, hq, r⟩ := rx.tup_inv
    exact .inr (.inl ⟨q, rfl, ⟨xs, ex_t g1.ok.le hq⟩, p _ G1 H1 (Gr.refl g1.ok) (walker_tup hq r)⟩)
  | str z =>
    cases rx
    exact .inr (.inr ⟨z, rfl, p _ G1 H1 (Gr.refl g1.ok) walker_str⟩)
  | _ => exact p.elim
def upto (lo : Int) : Nat → List D
  | 0 => []
  | n + 1 => .int lo :: upto (lo + 1) n
theorem upto_len : ∀ (n : Nat) (lo : Int), (upto lo n).length = n
  | 0, _ => rfl
  | n + 1, lo => by show (upto (lo + 1) n).length + 1 = n + 1; rw [upto_len n]
theorem upto_at : ∀ (n : Nat) (lo : Int) (i : Nat) (d : D), (upto lo n)[i]? = some d → d = .int (lo + i)
  | 0, _, _, _, h => by simp [upto] at h
  | n + 1, lo, 0, d, h => by
    have e : some (PyData.int lo) = some d := h
    cases e
    simp
  | n + 1, lo, i + 1, d, h => by
    rw [upto_at n (lo + 1) i d h]
    congr 1
    omega
theorem walker_range {lo : Int} {n : Nat} {G : Hp} : Walker TS X.K (Itr lo n) (upto lo n) G := by
  intro G1 H e ok
  refine ⟨fun i d hd => ?_, by rw [upto_len]; exact Nat.le_refl _⟩
  have hi : i < n := by rw [← upto_len n lo]; exact (List.getElem?_eq_some_iff.mp hd).1
  refine ⟨hi, fun v' H' y => ?_⟩
  obtain ⟨rfl, rfl⟩ := y
  rw [upto_at n lo i d hd]
  exact ⟨G1, Gr.refl ok, .int _⟩
def r1D : D → Res (List D)
  | .int n => if -(2 ^ 62) ≤ n ∧ n < 2 ^ 62 then .ok (upto 0 n.toNat) else .bad
  | _ => .bad
def iF2 (g : D → D → Res (List D)) (fa fb : En → Res D) : En → Res (List D) := fun ρ => (fa ρ).bind fun x => (fb ρ).bind fun y => g x y
theorem di_range1 {p : Pos} (hg : Gl X "range") (hm : X.mg "range" = none) (ha : DE TS X a fa) (hs : starEach [a] X.env = [(false, eval a X.env)] := by rfl) : DI TS X tg (.Call (.Name "range" p) [a] [] pos) (iF r1D fa) := by
  refine ⟨?_⟩
  intro W ρ σ G H R tk re ok post
  refine wpIt_of (pi_range1 hg hm (pa_cons (pe_wp X a) pa_nil hs) hs) ?_
  refine bindP (wp := fun R => wpE X a σ H R) back_J (fun Q' p => ha W ρ σ G H Q' tk re ok p) post fun v x G1 H1 _ g1 rx p => ?_
  unfold r1D at p
  split at p
  · cases rx
    split at p
    · rename_i h
      exact ⟨_, rfl, h.1, h.2, p _ G1 H1 (Gr.refl g1.ok) walker_range⟩
    · exact p.elim
  · exact p.elim
def enumL : Nat → List D → List D
  | _, [] => []
  | n, d :: ds => .tuple [.int n, d] :: enumL (n + 1) ds
theorem enum_len : ∀ (ds : List D) (n : Nat), (enumL n ds).length = ds.length
  | [], _ => rfl
  | d :: ds, n => by show (enumL (n + 1) ds).length + 1 = ds.length + 1; rw [enum_len ds]
theorem enum_at : ∀ (ds : List D) (n i : Nat) (x : D), (enumL n ds)[i]? = some x → ∃ d, ds[i]? = some d ∧ x = .tuple [.int ((n + i : Nat) : Int), d]
  | [], _, _, _, h => by simp [enumL] at h
  | d :: ds, n, 0, x, h => by
    have e : some (PyData.tuple [.int n, d]) = some x := h
    cases e
    exact ⟨d, rfl, by simp⟩
  | d :: ds, n, i + 1, x, h => by
    obtain ⟨y, h1, h2⟩ := enum_at ds (n + 1) i x h
    refine ⟨y, by simpa using h1, ?_⟩
    rw [h2]
    congr 3
    omega
def enumD : D → Res (List D)
  | .list ds => .ok (enumL 0 ds)
  | _ => .bad
theorem pair_new {K : PySem.W.Frag} {G H : Hp} {T : Addr} {v u : V} {x y : D} (ok : Ok0 TS G H) (h : H T = none) (r1 : Rp K G v x) (r2 : Rp K G u y) : ∃ G', Gr TS G H G' (upd H T (.tup [v, u])) ∧ Rp K G' (.ref T) (.tuple [x, y]) := by
  have g := Gr.new (o := .tup [v, u]) ok h
  exact ⟨_, g, .tup (.inl (.inl upd_same)) (.cons (r1.mono g.g) (.cons (r2.mono g.g) .nil))⟩
theorem di_enum {elts : List Expr} {kk : Nat} {p tpos : Pos} (hg : Gl X "enumerate") (hm : X.mg "enumerate" = none) (ha : DE TS X a fa) (hs : starEach [a] X.env = [(false, eval a X.env)] := by rfl) : DI TS X (.Tuple elts kk tpos) (.Call (.Name "enumerate" p) [a] [] pos) (iF enumD fa) := by
  refine ⟨?_⟩
  intro W ρ σ G H R tk re ok post
  refine wpIt_of (pi_enum hg hm (pa_cons (pe_wp X a) pa_nil hs) hs) ?_
  refine bindP (wp := fun R => wpE X a σ H R) back_J (fun Q' p => ha W ρ σ G H Q' tk re ok p) post fun v x G1 H1 _ g1 rx p => ?_
  unfold enumD at p
  split at p
  · rename_i ds _
    obtain ⟨q, xs, rfl, hq, r⟩ := rx.list_inv
    refine ⟨q, xs, rfl, ex_l g1.ok.le hq, p _ G1 H1 (Gr.refl g1.ok) ?_⟩
    intro G2 H2 e ok2
    have h1 : SqL X.K H2 q xs := ex_l (e.trans ok2.le) hq
    refine ⟨fun i x hx => ?_, ⟨xs, h1, by rw [r.len, enum_len]; exact Nat.le_refl _⟩⟩
    obtain ⟨d, hd, rfl⟩ := enum_at ds 0 i x hx
    obtain ⟨v, hv, rv⟩ := r.at hd
    refine ⟨⟨xs, v, h1, hv⟩, fun v' H' y => ?_⟩
    obtain ⟨T, z, rfl, hT, rfl, hz⟩ := y
    have e2 : some z = some v := (hz xs h1).symm.trans hv
    cases e2
    have r0 : Rp X.K G2 (.int ((i : Nat) : Int)) (.int ((0 + i : Nat) : Int)) := by rw [Nat.zero_add]; exact .int _
    exact pair_new ok2 hT r0 (rv.mono e)
  · exact p.elim
end
inductive Tg where
  | nm (i : Nat)
  | tp (is : List Nat)
def gMany : List Nat → TGs
  | [] => gNil
  | i :: is => gCons (gName i) (gMany is)
def gTg (K : PySem.W.Frag) : Tg → TG
  | .nm i => gName i
  | .tp is => gTup K is.length (gMany is)
def Tg.all : Tg → List Nat
  | .nm i => [i]
  | .tp is => is
def setsE : List Nat → List D → En → En
  | i :: is, d :: ds, ρ => setsE is ds (ρ.set i (some d))
  | _, _, ρ => ρ
def tgE : Tg → D → En → Res En
  | .nm i, d, ρ => .ok (ρ.set i (some d))
  | .tp is, .tuple ds, ρ => if ds.length = is.length then .ok (setsE is ds ρ) else .bad
  | _, _, _ => .bad
def setsF : List Nat → List D → Frm → Frm
  | i :: is, d :: ds, ρ => setsF is ds (ρ.set i (.val d))
  | _, _, ρ => ρ
def tgF : Tg → D → Frm → Res Frm
  | .nm i, d, ρ => .ok (ρ.set i (.val d))
  | .tp is, .tuple ds, ρ => if ds.length = is.length then .ok (setsF is ds ρ) else .bad
  | _, _, _ => .bad
section
variable {TS : TabList} {K : PySem.W.Frag} {G_0 H_0 G H : Hp} {fp : Nat → List Addr}
theorem RpE.set {ρ : En} {σ : L2.St} {i : Nat} {v : V} {d : D} (h : RpE TS K G H ρ σ) (r : Rp K G v d) : RpE TS K G H (ρ.set i (some d)) (σ.set i (some v)) := by
  refine ⟨by simpa using h.len, fun j d' e z => ?_, fun j ds e => ?_, fun j ds e => ?_, fun j c e => ?_⟩
  · rcases set_at e with ⟨rfl, e, hl⟩ | ⟨ne, e⟩
    · cases e
      exact ⟨v, List.getElem?_set_self (Nat.lt_of_lt_of_le hl h.len), r⟩
    · rw [List.getElem?_set_ne ne]
      exact h.at' j d' e z
  · rcases set_at e with ⟨rfl, e, hl⟩ | ⟨ne, e⟩
    · cases e
      exact absurd r.notLo (by simp [isLo])
    · rw [List.getElem?_set_ne ne]
      exact h.lo j ds e
  · rcases set_at e with ⟨rfl, e, hl⟩ | ⟨ne, e⟩
    · cases e
      exact absurd r.notLo (by simp [isLo])
    · rw [List.getElem?_set_ne ne]
      exact h.st j ds e
  · rcases set_at e with ⟨rfl, e, hl⟩ | ⟨ne, e⟩
    · cases e
      exact absurd r.notLo (by simp [isLo])
    · rw [List.getElem?_set_ne ne]
      exact h.ex j c e
theorem wipe_at {j : Nat} : ∀ (vs : List Nat) (τ : L2.St), (wipe τ vs)[j]? = if j ∈ vs then (τ[j]?).map (fun _ => none) else τ[j]? := by
  intro vs
  induction vs with
  | nil => intro τ; simp [wipe]
  | cons w ws ih =>
    intro τ
    show ((wipe τ ws).set w none)[j]? = _
    by_cases e : w = j
    · subst e
      rw [if_pos List.mem_cons_self, List.getElem?_set]
      rw [wipe_length]
      by_cases hl : w < τ.length
      · simp [hl]
      · simp [hl]
    · rw [List.getElem?_set_ne e, ih]
      by_cases m : j ∈ ws
      · rw [if_pos m, if_pos (List.mem_cons_of_mem _ m)]
      · rw [if_neg m, if_neg (fun z => (List.mem_cons.mp z).elim (fun q => e q.symm) m)]
theorem wipe_set {σ : L2.St} {i : Nat} {x : Option V} {vs : List Nat} (h : i ∈ vs) : wipe (σ.set i x) vs = wipe σ vs := by
  apply List.ext_getElem?
  intro j
  rw [wipe_at, wipe_at]
  by_cases e : i = j
  · subst e
    rw [if_pos h, if_pos h, List.getElem?_set]
    by_cases hl : i < σ.length
    · simp [hl]
    · simp [hl]
  · rw [List.getElem?_set_ne e]
theorem wipe_wipe (σ : L2.St) (vs : List Nat) : wipe (wipe σ vs) vs = wipe σ vs := by
  apply List.ext_getElem?
  intro j
  rw [wipe_at, wipe_at]
  by_cases m : j ∈ vs
  · rw [if_pos m, if_pos m]
    cases σ[j]? <;> rfl
  · rw [if_neg m, if_neg m]
theorem gMany_ok {Q : L2.St → Hp → Prop} {own : List Nat} : ∀ (is : List Nat) (ds : List D) (vs : List V) (ρ : En) (σ : L2.St), (∀ i ∈ is, i ∈ own) → ds.length = is.length → Rps K G vs ds → RpE TS K G H ρ σ →
    (∀ σ', RpE TS K G H (setsE is ds ρ) σ' → wipe σ' own = wipe σ own → Q σ' H) → gMany is vs σ H Q
  | [], [], _, ρ, σ, _, _, .nil, re, k => ⟨rfl, k σ re rfl⟩
  | i :: is, d :: ds, _, ρ, σ, ho, hl, .cons r rs, re, k => by
    refine ⟨_, _, rfl, ?_⟩
    refine gMany_ok is ds _ (ρ.set i (some d)) (σ.set i (some _)) (fun j hj => ho j (List.mem_cons_of_mem _ hj)) (by simpa using hl) rs (re.set r) fun σ' h1 h2 => k σ' h1 ?_
    rw [h2, wipe_set (ho i List.mem_cons_self)]
  | [], _ :: _, _, _, _, _, hl, _, _, _ => by simp at hl
  | _ :: _, [], _, _, _, _, hl, _, _, _ => by simp at hl
theorem gTg_ok {Q : L2.St → Hp → Prop} {own : List Nat} {t : Tg} {d : D} {v : V} {ρ ρ' : En} {σ : L2.St} (ok : Ok0 TS G H) (ho : ∀ i ∈ t.all, i ∈ own) (r : Rp K G v d) (re : RpE TS K G H ρ σ) (e : tgE t d ρ = .ok ρ')
    (k : ∀ σ', RpE TS K G H ρ' σ' → wipe σ' own = wipe σ own → Q σ' H) : gTg K t v σ H Q := by
  cases t with
  | nm i =>
    cases e
    exact k _ (re.set r) (wipe_set (ho i (by simp [Tg.all])))
  | tp is =>
    cases r <;> try cases e
    rename_i a xs ds h rs
    have e : (if ds.length = is.length then Res.ok (setsE is ds ρ) else .bad) = .ok ρ' := e
    split at e
    · rename_i hl
      cases e
      exact ⟨a, xs, rfl, ex_t ok.le h, by rw [rs.len, hl], gMany_ok is ds xs ρ σ ho hl rs re k⟩
    · cases e
theorem gManyF_ok {Q : L2.St → Hp → Prop} : ∀ (is : List Nat) (ds : List D) (vs : List V) (ρ : Frm) (σ : L2.St), ds.length = is.length → Rps K G vs ds → SI TS K G_0 H_0 ρ σ G H fp →
    (∀ σ', SI TS K G_0 H_0 (setsF is ds ρ) σ' G H fp → Q σ' H) → gMany is vs σ H Q
  | [], [], _, ρ, σ, _, .nil, re, k => ⟨rfl, k σ re⟩
  | i :: is, d :: ds, _, ρ, σ, hl, .cons r rs, re, k => ⟨_, _, rfl, gManyF_ok is ds _ (ρ.set i (.val d)) (σ.set i (some _)) (by simpa using hl) rs (re.setVal r) k⟩
  | [], _ :: _, _, _, _, hl, _, _, _ => by simp at hl
  | _ :: _, [], _, _, _, hl, _, _, _ => by simp at hl
theorem gTgF_ok {Q : L2.St → Hp → Prop} {t : Tg} {d : D} {v : V} {ρ ρ' : Frm} {σ : L2.St} (r : Rp K G v d) (s : SI TS K G_0 H_0 ρ σ G H fp) (e : tgF t d ρ = .ok ρ') (k : ∀ σ', SI TS K G_0 H_0 ρ' σ' G H fp → Q σ' H) : gTg K t v σ H Q := by
  cases t with
  | nm i =>
    cases e
    exact k _ (s.setVal r)
  | tp is =>
    cases r <;> try cases e
    rename_i a xs ds h rs
    have e : (if ds.length = is.length then Res.ok (setsF is ds ρ) else .bad) = .ok ρ' := e
    split at e
    · rename_i hl
      cases e
      exact ⟨a, xs, rfl, ex_t s.gr.ok.le h, by rw [rs.len, hl], gManyF_ok is ds xs ρ σ hl rs s k⟩
    · cases e
end
end Pyr
set_option Elab.async false
set_option autoImplicit false
set_option linter.all false
set_option maxRecDepth 100000
set_option maxHeartbeats 1000000
namespace Pyr
open PySem PySem.Spec PyProof.Rows L2 Evl
def noX {α : Type} : Res α → Res α
  | .exc _ _ => .bad
  | .alt f => .alt fun i => noX (f i)
  | r => r
def forF (t : Tg) (F : Frm → Res Fl) : List D → Frm → Res Fl
  | [], ρ => .ok (.next ρ)
  | d :: ds, ρ => (tgF t d ρ).bind fun ρ1 => (F ρ1).bind fun fl => match fl with
    | .next ρ2 => forF t F ds ρ2
    | .cont ρ2 => forF t F ds ρ2
    | .brk ρ2 => .ok (.next ρ2)
    | .ret r => .ok (.ret r)
def evI (fi : En → Res (List D)) (ρ : Frm) : Res (List D) := noX (fi (purE ρ))
def sFor (t : Tg) (fi : En → Res (List D)) (F : Frm → Res Fl) : Frm → Res Fl := fun ρ => (evI fi ρ).bind fun ds => forF t F ds ρ
def evR (fi : En → Res (List D)) (ρ : Frm) : Res (List D) := (noX (fi (frzE ρ))).bind fun ds => if ds.all flat0 then .ok ds else .bad
def sForR (t : Tg) (fi : En → Res (List D)) (F : Frm → Res Fl) : Frm → Res Fl := fun ρ => (evR fi ρ).bind fun ds => forF t F ds ρ
section
variable {TS : TabList} {X : Cx} {W : WX} {tg iter : Expr} {fi : En → Res (List D)} {F : Frm → Res Fl} {body : List Stmt} {pos : Pos} {t : Tg}
theorem tgF_exc {d : D} {ρ : Frm} {c : Str} {fs : List (Str × D)} : ¬ tgF t d ρ = .exc c fs := by
  intro h
  cases t with
  | nm i => cases h
  | tp is =>
    cases d <;> try cases h
    have h : (if (by assumption : List D).length = is.length then Res.ok (setsF is (by assumption) ρ) else .bad) = .exc c fs := h
    split at h <;> cases h
theorem tgF_alt {d : D} {ρ : Frm} {f : Nat → Res Frm} : ¬ tgF t d ρ = .alt f := by
  intro h
  cases t with
  | nm i => cases h
  | tp is =>
    cases d <;> try cases h
    have h : (if (by assumption : List D).length = is.length then Res.ok (setsF is (by assumption) ρ) else .bad) = .alt f := h
    split at h <;> cases h
theorem stI {α γ : Type} {G_0 H_0 Gp G H : Hp} {σ : L2.St} {Dn : Ends} {Rel : Hp → Hp → Hp → γ → α → Prop} {r : Res α} {k : α → Res Fl} {R : γ → Hp → Prop} (p : PostS TS X W G_0 H_0 Gp Dn ((noX r).bind k))
    (next : ∀ v x G1 H1, Gr TS G H G1 H1 → Rel H G1 H1 v x → PostS TS X W G_0 H_0 Gp Dn (k x) → R v H1) : PostG Rel TS X W σ G H r R := by
  induction r with
  | ok x => exact fun v G1 H1 g r => next v x G1 H1 g r p
  | exc c fs => exact p.elim
  | bad => exact p
  | alt f ih => exact fun i => ih i (p i)
theorem bindI_ok {α : Type} {r : Res α} : r.bind Res.ok = r := by
  induction r with
  | alt f ih => exact congrArg Res.alt (funext ih)
  | _ => rfl
theorem for_core {J : It} {ds : List D} {G_0 H_0 G H G1 : Hp} {ρ : Frm} {σ : L2.St} {fp : Nat → List Addr} {Dn : Ends} (hb : DSs TS X body F) (tk : Takes X W)
    (wk : ∀ (G2 H2 : Hp), Ex G1 G2 → Ok0 TS G2 H2 → (∀ (i : Nat) (x : D), ds[i]? = some x → J.go i H2 ∧ ∀ v H', J.yld i H2 v H' → ∃ G', Gr TS G2 H2 G' H' ∧ Rp X.K G' v x) ∧ J.stop ds.length H2)
    (s : SI TS X.K G_0 H_0 ρ σ G H fp) (e1 : Ex G1 G) (p : PostS TS X W G_0 H_0 G Dn (forF t F ds ρ)) :
    ∃ Wd : Nat → Nat → L2.St → Hp → Prop, (∃ m, Wd 0 m σ H) ∧ ∀ i m σ H, Wd i m σ H →
      (J.stop i H ∧ Dn.nx σ H) ∨ (J.go i H ∧ ∃ N : L2.St → Hp → Prop, (∀ σ' H', N σ' H' → ∃ m', m' < m ∧ Wd (i + 1) m' σ' H') ∧ ∀ x H', J.yld i H x H' → gTg X.K t x σ H' fun σ2 H2 => wpSs X body { Dn with nx := N, ct := N, bk := Dn.nx } σ2 H2) := by
  refine ⟨fun i m σ H => m = ds.length - i ∧ i ≤ ds.length ∧ ∃ ρ G fp, SI TS X.K G_0 H_0 ρ σ G H fp ∧ Ex G1 G ∧ PostS TS X W G_0 H_0 G Dn (forF t F (ds.drop i) ρ), ⟨ds.length, by simp, Nat.zero_le _, ρ, G, fp, s, e1, by rw [List.drop_zero]; exact p⟩, ?_⟩
  rintro i m σ H ⟨rfl, hi, ρ, G, fp, s, e1, p⟩
  obtain ⟨w1, w2⟩ := wk G H e1 s.gr.ok
  by_cases hlt : i < ds.length
  · have hx : ds[i]? = some ds[i] := List.getElem?_eq_getElem hlt
    have hd : ds.drop i = ds[i] :: ds.drop (i + 1) := List.drop_eq_getElem_cons hlt
    rw [hd] at p
    obtain ⟨h1, h2⟩ := w1 i _ hx
    refine .inr ⟨h1, fun σ' H' => ∃ ρ' G' fp', SI TS X.K G_0 H_0 ρ' σ' G' H' fp' ∧ Ex G1 G' ∧ PostS TS X W G_0 H_0 G' Dn (forF t F (ds.drop (i + 1)) ρ'), fun σ' H' h => ⟨ds.length - (i + 1), by omega, rfl, hlt, h⟩, fun v H' y => ?_⟩
    obtain ⟨G', g, r⟩ := h2 v H' y
    have p : PostS TS X W G_0 H_0 G Dn ((tgF t ds[i] ρ).bind fun ρ1 => (F ρ1).bind fun fl => match fl with
      | .next ρ2 => forF t F (ds.drop (i + 1)) ρ2
      | .cont ρ2 => forF t F (ds.drop (i + 1)) ρ2
      | .brk ρ2 => .ok (.next ρ2)
      | .ret r => .ok (.ret r)) := p
    cases ht : tgF t ds[i] ρ with
    | alt f => exact (tgF_alt ht).elim
    | ok ρ1 =>
      rw [ht] at p
      refine gTgF_ok r (s.grow g) ht fun σ2 s2 => ?_
      refine hb W ρ1 σ2 G_0 H_0 G' H' fp _ tk s2 ?_
      have p : PostS TS X W G_0 H_0 G Dn ((F ρ1).bind fun fl => match fl with
        | .next ρ2 => forF t F (ds.drop (i + 1)) ρ2
        | .cont ρ2 => forF t F (ds.drop (i + 1)) ρ2
        | .brk ρ2 => .ok (.next ρ2)
        | .ret r => .ok (.ret r)) := p
      revert p
      generalize F ρ1 = r1
      intro p
      induction r1 with
      | ok fl =>
        cases fl with
        | next ρ2 => exact fun σ3 G3 H3 fp3 e3 s3 => ⟨ρ2, G3, fp3, s3, (e1.trans g.g).trans e3, p.shift (g.g.trans e3)⟩
        | cont ρ2 => exact fun σ3 G3 H3 fp3 e3 s3 => ⟨ρ2, G3, fp3, s3, (e1.trans g.g).trans e3, p.shift (g.g.trans e3)⟩
        | brk ρ2 => exact fun σ3 G3 H3 fp3 e3 s3 => p σ3 G3 H3 fp3 (g.g.trans e3) s3
        | ret r =>
          cases r with
          | val d => exact p
          | own ds => exact p
          | ownU dss => exact p
          | ownM xs d ys => exact p
      | exc c fs => exact p
      | bad => exact p.elim
      | alt f ih => exact fun i => ih i (p i)
    | exc c fs => exact (tgF_exc ht).elim
    | bad =>
      rw [ht] at p
      exact p.elim
  · have e : i = ds.length := by omega
    subst e
    rw [List.drop_length] at p
    exact .inl ⟨w2, p σ G H fp (Ex.refl G) s⟩
theorem ds_for (C : CtE X) (hp : PassesOwn (model X.prog X.w) X.A X.env X.xe) (hi : DI TS X tg iter fi) (hg : PG X tg (gTg X.K t)) (hb : DSs TS X body F) (hs : ∀ x, foldedSetIterable iter X.env x = pure x := by intro _; rfl) : DSt TS X (.For tg iter body [] pos) (sFor t fi F) := by
  refine ⟨?_⟩
  intro W ρ σ G_0 H_0 G H fp Dn tk s p
  refine wpSt_of (ps_for hp C.calm (pi_wp X tg iter) hg (pss_wp X body) hs) ?_
  have p : PostS TS X W G_0 H_0 G Dn ((evI fi ρ).bind fun ds => forF t F ds ρ) := p
  exact hi W (purE ρ) σ G H _ tk s.pure s.gr.ok (stI p fun J ds G1 H1 g wk p => for_core hb tk wk (s.grow g) (Ex.refl G1) (p.shift g.g))
structure FlatW (TS : TabList) (X : Cx) (tg iter : Expr) (fi : En → Res (List D)) : Prop where
  run : ∀ (W : WX) (ρ : En) (σ : L2.St) (G H : Hp) (R : It → Hp → Prop), Takes X W → RpE TS X.K G H ρ σ → Ok0 TS G H → PostG (fun _ _ _ (J : It) ds => ∀ G, Walker TS X.K J ds G) TS X W σ G H (fi ρ) R → wpIt X tg iter σ H R
instance {TS : TabList} {X : Cx} {tg iter : Expr} {fi : En → Res (List D)} : CoeFun (FlatW TS X tg iter fi) fun _ => ∀ (W : WX) (ρ : En) (σ : L2.St) (G H : Hp) (R : It → Hp → Prop), Takes X W → RpE TS X.K G H ρ σ → Ok0 TS G H → PostG (fun _ _ _ (J : It) ds => ∀ G, Walker TS X.K J ds G) TS X W σ G H (fi ρ) R → wpIt X tg iter σ H R := ⟨FlatW.run⟩
theorem ds_forR (C : CtE X) (hp : PassesOwn (model X.prog X.w) X.A X.env X.xe) (hi : FlatW TS X tg iter fi) (hg : PG X tg (gTg X.K t)) (hb : DSs TS X body F) (hs : ∀ x, foldedSetIterable iter X.env x = pure x := by intro _; rfl) : DSt TS X (.For tg iter body [] pos) (sForR t fi F) := by
  refine ⟨?_⟩
  intro W ρ σ G_0 H_0 G H fp Dn tk s p
  refine wpSt_of (ps_for hp C.calm (pi_wp X tg iter) hg (pss_wp X body) hs) ?_
  have p : PostS TS X W G_0 H_0 G Dn ((evR fi ρ).bind fun ds => forF t F ds ρ) := p
  unfold evR at p
  rw [bind_bind] at p
  refine hi W (frzE ρ) σ (noTb H) H _ tk s.frz (ok_noTb s.gr.ok) (stI p fun J ds G1 H1 g wk p => ?_)
  by_cases hf : ds.all flat0 = true
  · rw [if_pos hf] at p
    exact for_core hb tk (wk G) (s.grow (gr_noTb s.gr.ok g)) (Ex.refl G) p
  · rw [if_neg hf] at p
    exact p.elim
end
section
variable {TS : TabList} {X : Cx} {tg a b : Expr} {fa fb : En → Res D} {pos : Pos}
theorem back_FW {K : PySem.W.Frag} : Back (fun _ _ _ (J : It) (ds : List D) => ∀ G, Walker TS K J ds G) := fun _ _ _ _ _ _ _ h => h
theorem fw_range1 {p : Pos} (hg : Gl X "range") (hm : X.mg "range" = none) (ha : DE TS X a fa) (hs : starEach [a] X.env = [(false, eval a X.env)] := by rfl) : FlatW TS X tg (.Call (.Name "range" p) [a] [] pos) (iF r1D fa) := by
  refine ⟨?_⟩
  intro W ρ σ G H R tk re ok post
  refine wpIt_of (pi_range1 hg hm (pa_cons (pe_wp X a) pa_nil hs) hs) ?_
  refine bindP (wp := fun R => wpE X a σ H R) back_FW (fun Q' p => ha W ρ σ G H Q' tk re ok p) post fun v x G1 H1 _ g1 rx p => ?_
  unfold r1D at p
  split at p
  · cases rx
    split at p
    · rename_i h
      exact ⟨_, rfl, h.1, h.2, p _ G1 H1 (Gr.refl g1.ok) fun _ => walker_range⟩
    · exact p.elim
  · exact p.elim
end
def wipeE (ρ : En) : List Nat → En
  | [] => ρ
  | v :: vs => (wipeE ρ vs).set v none
def compF (t : Tg) (tt : En → Res Bool) (fe : En → Res D) (ρ : En) : List D → Res (List D)
  | [] => .ok []
  | d :: ds => (tgE t d ρ).bind fun ρ1 => (noX (tt ρ1)).bind fun b => if b then (noX (fe ρ1)).bind fun y => (compF t tt fe ρ ds).bind fun ys => .ok (y :: ys) else compF t tt fe ρ ds
def lComp (own : List Nat) (t : Tg) (fi : En → Res (List D)) (tt : En → Res Bool) (fe : En → Res D) : En → Res (List D) := fun ρ => (fi ρ).bind fun ds => okL ds.length (compF t tt fe (wipeE ρ own) ds)
def wpTs (X : Cx) (ifs : List Expr) : TT := fun σ H Q => ∀ (pins : List (Addr × Obj)) (s : Shared), Inv X pins σ H s → wpAny (model X.prog X.w) X.A (forIn ifs true fun c r => if r = true then do let ok ← isTrue c X.env (eval c X.env); pure (ForInStep.yield ok) else pure (ForInStep.yield r)) (TP X pins σ Q) X.xe s
theorem wpTs_of {X : Cx} {ifs : List Expr} {t : TT} {σ : L2.St} {H : Hp} {Q : Bool → Hp → Prop} (h : PTs X ifs t) (q : t σ H Q) : wpTs X ifs σ H Q := fun pins s I => h.run pins s σ H Q I q
structure DTs (TS : TabList) (X : Cx) (ifs : List Expr) (f : En → Res Bool) : Prop where
  run : ∀ (W : WX) (ρ : En) (σ : L2.St) (G H : Hp) (Q : Bool → Hp → Prop), Takes X W → RpE TS X.K G H ρ σ → Ok0 TS G H → PostG RelT TS X W σ G H (f ρ) Q → wpTs X ifs σ H Q
instance {TS : TabList} {X : Cx} {ifs : List Expr} {f : En → Res Bool} : CoeFun (DTs TS X ifs f) fun _ => ∀ (W : WX) (ρ : En) (σ : L2.St) (G H : Hp) (Q : Bool → Hp → Prop), Takes X W → RpE TS X.K G H ρ σ → Ok0 TS G H → PostG RelT TS X W σ G H (f ρ) Q → wpTs X ifs σ H Q := ⟨DTs.run⟩
def tYesR : En → Res Bool := fun _ => .ok true
theorem dts_nil {TS : TabList} {X : Cx} : DTs TS X [] tYesR := .mk fun W ρ σ G H Q tk re ok post => wpTs_of pts_nil (post true G H (Gr.refl ok) rfl)
section
variable {TS : TabList} {X : Cx} {tg iter elt : Expr} {fi : En → Res (List D)} {tt : En → Res Bool} {fe : En → Res D} {ifs : List Expr} {pos : Pos} {t : Tg} {scope : Scope} {own : List (Str × Nat)}
theorem RpE.wipe {K : PySem.W.Frag} {G H : Hp} {ρ : En} {σ : L2.St} (h : RpE TS K G H ρ σ) : ∀ vs : List Nat, RpE TS K G H (wipeE ρ vs) (wipe σ vs)
  | [] => h
  | v :: vs => by
    have ih := h.wipe vs
    refine ⟨by show ((wipeE ρ vs).set v none).length ≤ ((L2.wipe σ vs).set v none).length; simpa using ih.len, fun i d e z => ?_, fun i ds e => ?_, fun i ds e => ?_, fun i c e => ?_⟩
    · rcases set_at e with ⟨_, e, _⟩ | ⟨ne, e⟩
      · cases e
      · obtain ⟨w, h1, h2⟩ := ih.at' i d e z
        refine ⟨w, ?_, h2⟩
        show ((L2.wipe σ vs).set v none)[i]? = _
        rw [List.getElem?_set_ne ne]
        exact h1
    · rcases set_at e with ⟨_, e, _⟩ | ⟨ne, e⟩
      · cases e
      · obtain ⟨a, ws, h1, h2⟩ := ih.lo i ds e
        refine ⟨a, ws, ?_, h2⟩
        show ((L2.wipe σ vs).set v none)[i]? = _
        rw [List.getElem?_set_ne ne]
        exact h1
    · rcases set_at e with ⟨_, e, _⟩ | ⟨ne, e⟩
      · cases e
      · obtain ⟨a, h1, h2⟩ := ih.st i ds e
        refine ⟨a, ?_, h2⟩
        show ((L2.wipe σ vs).set v none)[i]? = _
        rw [List.getElem?_set_ne ne]
        exact h1
    · rcases set_at e with ⟨_, e, _⟩ | ⟨ne, e⟩
      · cases e
      · obtain ⟨a, h1, h2⟩ := ih.ex i c e
        refine ⟨a, ?_, h2⟩
        show ((L2.wipe σ vs).set v none)[i]? = _
        rw [List.getElem?_set_ne ne]
        exact h1
theorem tgE_ok {d : D} {ρ : En} (P : Res En → Prop) (h1 : ∀ ρ1, tgE t d ρ = .ok ρ1 → P (.ok ρ1)) (h2 : P .bad) : P (tgE t d ρ) := by
  have h : (∃ ρ1, tgE t d ρ = .ok ρ1) ∨ tgE t d ρ = .bad := by
    cases t with
    | nm i => exact .inl ⟨_, rfl⟩
    | tp is =>
      cases d <;> first | exact .inr rfl | skip
      show (∃ ρ1, (if (by assumption : List D).length = is.length then Res.ok (setsE is (by assumption) ρ) else .bad) = .ok ρ1) ∨ (if (by assumption : List D).length = is.length then Res.ok (setsE is (by assumption) ρ) else .bad) = .bad
      split
      · exact .inl ⟨_, rfl⟩
      · exact .inr rfl
  rcases h with ⟨ρ1, h⟩ | h
  · rw [h]
    exact h1 ρ1 h
  · rw [h]
    exact h2
theorem noXP {X' : Cx} {W W' : WX} {σ σ' : L2.St} {α β γ δ : Type} {Ra : Hp → Hp → Hp → δ → α → Prop} {Rb : Hp → Hp → Hp → γ → β → Prop} {r : Res α} {k : α → Res β} {Q : γ → Hp → Prop} {R : δ → Hp → Prop} {G H G1 H1 : Hp} (post : PostG Rb TS X W σ G H ((noX r).bind k) Q)
    (next : ∀ v x G2 H2, Gr TS G1 H1 G2 H2 → Ra H1 G2 H2 v x → PostG Rb TS X W σ G H (k x) Q → R v H2) : PostG Ra TS X' W' σ' G1 H1 r R := by
  induction r with
  | ok x => exact fun v G2 H2 g rel => next v x G2 H2 g rel post
  | exc c fs => exact post.elim
  | bad => exact post
  | alt f ih => exact fun i => ih i (post i)
def blkT (X : Cx) (scope : Scope) (ifs : List Expr) : TT := fun σ H Q => ∀ (s : Shared) (H0 : Hp) (C : Addr) (cl : List (Str × Addr)) (fp : List Addr), wpTs (X.blk s H0 scope (compEnvC scope cl C X.env) fp) ifs σ H Q
def blkE (X : Cx) (scope : Scope) (elt : Expr) : TE := fun σ H Q => ∀ (s : Shared) (H0 : Hp) (C : Addr) (cl : List (Str × Addr)) (fp : List Addr), wpE (X.blk s H0 scope (compEnvC scope cl C X.env) fp) elt σ H Q
theorem comp_core {W : WX} {ρ : En} {σ : L2.St} {G H : Hp} {Q : VK} (hi : DI TS X tg iter fi) (ho : ∀ i ∈ t.all, i ∈ own.map (·.2))
    (ht : ∀ (s : Shared) (H : Hp) (C : Addr) (cl : List (Str × Addr)) (fp : List Addr), DTs TS (X.blk s H scope (compEnvC scope cl C X.env) fp) ifs tt)
    (he : ∀ (s : Shared) (H : Hp) (C : Addr) (cl : List (Str × Addr)) (fp : List Addr), DE TS (X.blk s H scope (compEnvC scope cl C X.env) fp) elt fe)
    (tk : Takes X W) (re : RpE TS X.K G H ρ σ) (ok : Ok0 TS G H) (post : PostG (RelL X.K) TS X W σ G H (lComp (own.map (·.2)) t fi tt fe ρ) Q) :
    tLc (wpIt X tg iter) (gTg X.K t) (blkT X scope ifs) (blkE X scope elt) (own.map (·.2)) σ H Q := by
  refine bindP (wp := fun R => wpIt X tg iter σ H R) back_L (fun Q' p => hi W ρ σ G H Q' tk re ok p) post fun J ds G1 H1 _ g1 wk p => ?_
  obtain ⟨hlim, p⟩ := okL_post p
  intro Dl hD
  have reW : ∀ {G' H' : Hp}, Gr TS G1 H1 G' H' → RpE TS X.K G' H' (wipeE ρ (own.map (·.2))) (wipe σ (own.map (·.2))) := fun e => ((re.mono g1).mono e).wipe _
  generalize hρ : wipeE ρ (own.map (·.2)) = ρ0 at p reW
  refine ⟨fun i m H => m = ds.length - i ∧ i ≤ ds.length ∧ ∃ Gi vs pre, Gr TS G1 H1 Gi H ∧ Gi Dl = none ∧ H Dl = some (.lst vs) ∧ Rps X.K Gi vs pre ∧ PostG (RelL X.K) TS X W σ G1 H1 ((compF t tt fe ρ0 (ds.drop i)).bind fun ys => .ok (pre ++ ys)) Q ∧ pre.length ≤ i,
    ⟨ds.length, by simp, Nat.zero_le _, G1, [], [], Gr.own g1.ok hD, fresh_back g1.ok.le hD, upd_same, .nil, by rw [List.drop_zero, show (fun ys : List D => Res.ok ([] ++ ys)) = Res.ok from rfl, bindI_ok]; exact p, Nat.le_refl _⟩, ?_⟩
  rintro i m H2 ⟨rfl, hi2, Gi, vs, pre, gi, gD, hDl, rv, hr, hlen⟩
  obtain ⟨w1, w2⟩ := wk Gi H2 gi.g gi.ok
  by_cases hlt : i < ds.length
  · have hx : ds[i]? = some ds[i] := List.getElem?_eq_getElem hlt
    have hd : ds.drop i = ds[i] :: ds.drop (i + 1) := List.drop_eq_getElem_cons hlt
    rw [hd] at hr
    obtain ⟨h1, h2⟩ := w1 i _ hx
    refine .inr ⟨h1, fun H' => ∃ Gi vs pre, Gr TS G1 H1 Gi H' ∧ Gi Dl = none ∧ H' Dl = some (.lst vs) ∧ Rps X.K Gi vs pre ∧ PostG (RelL X.K) TS X W σ G1 H1 ((compF t tt fe ρ0 (ds.drop (i + 1))).bind fun ys => .ok (pre ++ ys)) Q ∧ pre.length ≤ i + 1, fun H' h => ⟨ds.length - (i + 1), by omega, rfl, hlt, h⟩, fun v H' y => ?_⟩
    obtain ⟨G', g, r⟩ := h2 v H' y
    have hr : PostG (RelL X.K) TS X W σ G1 H1 (((tgE t ds[i] ρ0).bind fun ρ1 => (noX (tt ρ1)).bind fun b => if b then (noX (fe ρ1)).bind fun y => (compF t tt fe ρ0 (ds.drop (i + 1))).bind fun ys => .ok (y :: ys) else compF t tt fe ρ0 (ds.drop (i + 1))).bind fun ys => .ok (pre ++ ys)) Q := hr
    rw [bind_bind] at hr
    revert hr
    refine tgE_ok (fun z => PostG (RelL X.K) TS X W σ G1 H1 (z.bind _) Q → _) (fun ρ1 e1 hr => ?_) fun hr => hr.elim
    refine gTg_ok g.ok ho r (reW (gi.trans g)) e1 fun σ2 re2 hw => ?_
    rw [wipe_wipe] at hw
    refine ⟨hw, fun s' H0' C' cl' fp' => ?_⟩
    have hr : PostG (RelL X.K) TS X W σ G1 H1 (((noX (tt ρ1)).bind fun b => if b then (noX (fe ρ1)).bind fun y => (compF t tt fe ρ0 (ds.drop (i + 1))).bind fun ys => .ok (y :: ys) else compF t tt fe ρ0 (ds.drop (i + 1))).bind fun ys => .ok (pre ++ ys)) Q := hr
    rw [bind_bind] at hr
    refine ht s' H0' C' cl' fp' (fun _ _ _ _ => False) ρ1 σ2 G' H' _ takes0 re2 g.ok (noXP hr fun b' b G3 H3 g3 eb hr => ?_)
    subst eb
    have keep : ∀ {Ga Ha Gb Hb : Hp}, Gr TS Ga Ha Gb Hb → Ga Dl = none → Ha Dl = some (.lst vs) → Gb Dl = none ∧ Hb Dl = some (.lst vs) := fun {Ga Ha Gb Hb} gg z1 z2 => by
      refine ⟨?_, gg.h.at z2 rfl⟩
      cases q : Gb Dl with
      | none => rfl
      | some w =>
        rcases gg.nw Dl (by rw [q]; simp) with c | c
        · exact absurd z1 c
        · rw [z2] at c
          cases c
    obtain ⟨k1, k2⟩ := keep g gD hDl
    obtain ⟨k3, k4⟩ := keep g3 k1 k2
    cases b' with
    | false => exact iteF ⟨G3, vs, pre, (gi.trans g).trans g3, k3, k4, (rv.mono g.g).mono g3.g, hr, Nat.le_succ_of_le hlen⟩
    | true =>
      refine iteT fun s' H0' C' cl' fp' => ?_
      have hr : PostG (RelL X.K) TS X W σ G1 H1 (((noX (fe ρ1)).bind fun y => (compF t tt fe ρ0 (ds.drop (i + 1))).bind fun ys => .ok (y :: ys)).bind fun ys => .ok (pre ++ ys)) Q := hr
      rw [bind_bind] at hr
      refine he s' H0' C' cl' fp' (fun _ _ _ _ => False) ρ1 σ2 G3 H3 _ takes0 (re2.mono g3) g3.ok (noXP hr fun yv yd G4 H4 g4 ry hr => ?_)
      obtain ⟨k5, k6⟩ := keep g4 k3 k4
      rw [bind_bind] at hr
      refine ⟨vs, k6, ?_, G4, vs ++ [yv], pre ++ [yd], ?_, k5, upd_same, (((rv.mono g.g).mono g3.g).mono g4.g).app (.cons ry .nil), ?_, by rw [List.length_append]; exact Nat.succ_le_succ hlen⟩
      · rw [rv.len]
        refine Nat.lt_of_le_of_lt (Nat.le_trans hlen (Nat.le_trans hi2 hlim)) (by decide)
      · have gg := ((gi.trans g).trans g3).trans g4
        refine ⟨gg.g, ⟨fun b w hb n => ?_, fun b hb => gg.h.old b (upd_none hb), fun P t => (gg.h.tb P t).upd k6 rfl⟩, gg.nw, ⟨fun b w hb => ?_, gg.ok.tb.upd k6 rfl, gg.ok.nt⟩⟩
        · rw [upd_ne (ne_of_none hb hD)]
          exact gg.h.same b w hb n
        · rw [upd_ne (ne_of_none hb k5)]
          exact gg.ok.le b w hb
      · have e : (fun ys : List D => (Res.ok (yd :: ys)).bind fun ys => Res.ok (pre ++ ys)) = fun ys => Res.ok ((pre ++ [yd]) ++ ys) := funext fun ys => by
          rw [List.append_assoc]
          rfl
        rw [← e]
        exact hr
  · have e : i = ds.length := by omega
    subst e
    rw [List.drop_length] at hr
    have hr : PostG (RelL X.K) TS X W σ G1 H1 (.ok (pre ++ [])) Q := hr
    rw [List.append_nil] at hr
    exact .inl ⟨w2, hr _ Gi H2 gi ⟨Dl, vs, rfl, hD, gD, hDl, rv⟩⟩
theorem dl_comp (C : CtE X) (hi : DI TS X tg iter fi) (ok : BlkOk X.N X.env.scope scope own) (ho : ∀ i ∈ t.all, i ∈ own.map (·.2))
    (hg : ∀ (s : Shared) (H : Hp) (C : Addr) (cl : List (Str × Addr)) (fp : List Addr), PG (X.blk s H scope (compEnvC scope cl C X.env) fp) tg (gTg X.K t))
    (ht : ∀ (s : Shared) (H : Hp) (C : Addr) (cl : List (Str × Addr)) (fp : List Addr), DTs TS (X.blk s H scope (compEnvC scope cl C X.env) fp) ifs tt)
    (he : ∀ (s : Shared) (H : Hp) (C : Addr) (cl : List (Str × Addr)) (fp : List Addr), DE TS (X.blk s H scope (compEnvC scope cl C X.env) fp) elt fe) (hs : ∀ x, foldedSetIterable iter X.env x = pure x := by intro _; rfl) :
    DL TS X (.ListComp elt [⟨tg, iter, ifs, 0⟩] scope pos) (lComp (own.map (·.2)) t fi tt fe) := by
  refine ⟨?_⟩
  intro W ρ σ G H Q tk re k post
  exact wpE_of (pe_lc C.calm C.nd (pi_wp X tg iter) ok hg (fun s H C cl fp => ⟨fun pins s1 σ H1 Q I h => h s H C cl fp pins s1 I⟩) (fun s H C cl fp => ⟨fun pins s1 σ H1 Q I h => h s H C cl fp pins s1 I⟩) hs) (comp_core (elt := elt) hi ho ht he tk re k post)
theorem ds_setLc (i : Nat) {y : Str} {py spos : Pos} (C : CtE X) (hi : DI TS X tg iter fi) (ok : BlkOk X.N X.env.scope scope own) (ho : ∀ i ∈ t.all, i ∈ own.map (·.2))
    (hg : ∀ (s : Shared) (H : Hp) (C : Addr) (cl : List (Str × Addr)) (fp : List Addr), PG (X.blk s H scope (compEnvC scope cl C X.env) fp) tg (gTg X.K t))
    (ht : ∀ (s : Shared) (H : Hp) (C : Addr) (cl : List (Str × Addr)) (fp : List Addr), DTs TS (X.blk s H scope (compEnvC scope cl C X.env) fp) ifs tt)
    (he : ∀ (s : Shared) (H : Hp) (C : Addr) (cl : List (Str × Addr)) (fp : List Addr), DE TS (X.blk s H scope (compEnvC scope cl C X.env) fp) elt fe)
    (hsw : swapsWith (.ListComp elt [⟨tg, iter, ifs, 0⟩] scope pos) (some (.Name y py)) spos.line X.env = pure true) (hy : X.N[i]? = some y := by rfl) (hyl : X.env.scope.names.lookup y = some .local := by rfl) (hs : ∀ x, foldedSetIterable iter X.env x = pure x := by intro _; rfl) :
    DSt TS X (.Assign [.Name y py] (.ListComp elt [⟨tg, iter, ifs, 0⟩] scope pos) spos) (sSetL i (lComp (own.map (·.2)) t fi tt fe)) := by
  refine ⟨?_⟩
  intro W ρ σ G_0 H_0 G H fp D tk s p
  refine wpSt_of (ps_setLc (tt := blkT X scope ifs) (te := blkE X scope elt) C.calm C.nd hy hyl hsw (pi_wp X tg iter) ok hg (fun s H C cl fp => ⟨fun pins s1 σ H1 Q I h => h s H C cl fp pins s1 I⟩) (fun s H C cl fp => ⟨fun pins s1 σ H1 Q I h => h s H C cl fp pins s1 I⟩) hs) ?_
  refine evL_gen (wp := fun σ H R => tLc (wpIt X tg iter) (gTg X.K t) (blkT X scope ifs) (blkE X scope elt) (own.map (·.2)) σ H R) (fun W ρ σ G H Q tk re k post => comp_core hi ho ht he tk re k post) tk s p fun v ds G1 H1 g r p => ?_
  obtain ⟨fp', s'⟩ := s.storeL (i := i) g r
  exact p _ G1 H1 fp' g.g s'
end
section
variable {TS : TabList} {X : Cx} {a b : Expr} {fa fb : En → Res D} {es : List Expr} {fr : En → Res (List D)} {pos : Pos}
theorem eqV_eqv {K : PySem.W.Frag} {G : Hp} {v u : V} {x y : D} (rx : Rp K G v x) (ry : Rp K G u y) (h1 : flat0 x = true) (h2 : flat0 y = true) : flatV v = true ∧ eqV v u = PyData.eqv x y := by
  cases rx <;> cases ry <;> simp [flat0] at h1 h2 <;> refine ⟨rfl, ?_⟩ <;> simp only [PyData.eqv, eqV] <;> first | rfl | (rw [Bool.eq_iff_iff]; simp) | skip
theorem inV_any {K : PySem.W.Frag} {G : Hp} {v : V} {x : D} (rx : Rp K G v x) (h1 : flat0 x = true) : ∀ {us : List V} {ds : List D}, Rps K G us ds → ds.all flat0 = true → us.all flatV = true ∧ inV v us = ds.any fun z => PyData.eqv z x
  | _, _, .nil, _ => ⟨rfl, rfl⟩
  | _, _, .cons r rs, h => by
    rw [List.all_cons, Bool.and_eq_true] at h
    obtain ⟨a1, a2⟩ := eqV_eqv r rx h.1 h1
    obtain ⟨b1, b2⟩ := inV_any rx h1 rs h.2
    refine ⟨by rw [List.all_cons, a1, b1]; rfl, ?_⟩
    show (eqV _ v || inV v _) = _
    rw [a2, b2, List.any_cons]
def rInTD (K : PySem.W.Frag) : R2 := fun x y H Q => ∃ d ds, Dp K H x d ∧ Dp K H y (.tuple ds) ∧ SeqAt.shaped d = true ∧ SeqAt.shaped (.tuple ds) = true ∧ Q (.bl (ds.any fun z => PyData.eqv z d)) H
theorem op_inTD (hu : X.A.units + 65 < cLine) : OpR X (compareOp .In) (rInTD X.K) := by
  intro pins s σ H x y v u Q I rx ry h
  obtain ⟨d, ds, hd, he, sd, se, q⟩ := h
  obtain ⟨as, r1⟩ := Dp.reads I d x v hd rx
  obtain ⟨bs, r2⟩ := Dp.reads I (.tuple ds) y u he ry
  exact SeqAt.in_tuple_reads r2 r1 (SeqAt.canLay_of_shaped se) (SeqAt.canLay_of_shaped sd) (room_in_shaped sd hu) ⟨.bl _, H, I, rfl, q⟩
theorem od_in (C : CtE X) : OpD TS X (compareOp .In) inD := by
  refine ⟨?_⟩
  intro W σ v u x y G H Q ok rx ry p
  cases y with
  | str w =>
    cases x with
    | str z =>
      have p : PostG (RelE X.K) TS X W σ G H (if z.length = 1 then .ok (.bool (decide (z.cps.getD 0 0 ∈ w.cps.toList))) else .bad) Q := p
      cases rx
      cases ry
      split at p
      · rename_i h
        refine wpO_of op_in_sign ⟨z.cps.getD 0 0, w, ?_, rfl, fin1 ok p (.bl _)⟩
        congr 1
        exact one_sign h
      · exact p.elim
    | _ => exact p.elim
  | list ds =>
    have p : PostG (RelE X.K) TS X W σ G H (if okd x && okd (.list ds) then .ok (.bool (ds.any fun z => PyData.eqv z x)) else .bad) Q := by
      cases x <;> exact p
    split at p
    · rename_i h
      rw [Bool.and_eq_true] at h
      exact wpO_of (op_inD (by have := C.un; omega)) ⟨x, ds, (rx.mono ok.le).okdp h.1, (ry.mono ok.le).okdp h.2, okd_shaped h.1, okd_shaped h.2, fin1 ok p (.bl _)⟩
    · exact p.elim
  | tuple ds =>
    have p : PostG (RelE X.K) TS X W σ G H (if flat0 x && ds.all flat0 then .ok (.bool (ds.any fun z => PyData.eqv z x)) else if okd x && okd (.tuple ds) then .ok (.bool (ds.any fun z => PyData.eqv z x)) else .bad) Q := by
      cases x <;> exact p
    split at p
    · rename_i h
      rw [Bool.and_eq_true] at h
      obtain ⟨q, xs, rfl, hq, r⟩ := ry.tup_inv
      obtain ⟨a1, a2⟩ := inV_any rx h.1 r h.2
      have a0 : flatV v = true := (eqV_eqv rx rx h.1 h.1).1
      refine wpO_of op_in_seq ⟨q, xs, rfl, .inr (ex_t ok.le hq), a0, a1, ?_⟩
      rw [a2]
      exact fin1 ok p (.bl _)
    · split at p
      · rename_i _ h
        rw [Bool.and_eq_true] at h
        exact wpO_of (op_inTD (by have := C.un; omega)) ⟨x, ds, (rx.mono ok.le).okdp h.1, (ry.mono ok.le).okdp h.2, okd_shaped h.1, okd_shaped h.2, fin1 ok p (.bl _)⟩
      · exact p.elim
  | _ => cases x <;> exact p.elim
end
end Pyr
set_option Elab.async false
set_option autoImplicit false
set_option linter.all false
set_option maxRecDepth 100000
set_option maxHeartbeats 1000000
namespace Pyr
open PySem PySem.Spec PyProof.Rows L2 Evl
def strsD : List D → Option (List Str)
  | [] => some []
  | .str x :: ds => (strsD ds).map (x :: ·)
  | _ => none
def joinS (a : Str) (ds : List D) : Res D := match strsD ds with
  | some ys => if (ys.map (·.length)).sum + ys.length * a.length ≤ LIM then .ok (.str (Txt.join a ys)) else .bad
  | none => .bad
def joinD (a : Str) : D → Res D
  | .list ds => joinS a ds
  | .tuple ds => joinS a ds
  | _ => .bad
def eJoin (fa fb : En → Res D) : En → Res D := fun ρ => (fa ρ).bind fun x => match x with
  | .str a => (fb ρ).bind (joinD a)
  | _ => .bad
def splitD (a : Str) : D → Res (List D)
  | .str b => if b.length ≠ 0 ∧ a.length + 2 ≤ LIM then .ok ((Txt.split a b).map .str) else .bad
  | _ => .bad
def lSplit (fa fb : En → Res D) : En → Res (List D) := fun ρ => (fa ρ).bind fun x => match x with
  | .str a => (fb ρ).bind (splitD a)
  | _ => .bad
section
variable {TS : TabList} {X : Cx} {a b : Expr} {fa fb : En → Res D} {es : List Expr} {fr : En → Res (List D)} {pos : Pos}
theorem strs_of {K : PySem.W.Frag} {G : Hp} : ∀ {vs : List V} {ds : List D} {ys : List Str}, Rps K G vs ds → strsD ds = some ys → vs = ys.map V.str
  | _, _, _, .nil, h => by cases h; rfl
  | _, _, _, .cons (d := d) r rs, h => by
    cases r <;> try cases h
    rename_i x
    have h : ((strsD _).map (x :: ·)) = some _ := h
    obtain ⟨zs, h1, rfl⟩ := Option.map_eq_some_iff.mp h
    rw [strs_of rs h1]
    rfl
theorem join_line {n : Nat} (h : n ≤ LIM) : n ≤ 16777216 := Nat.le_trans h (by decide)
theorem de_join {apos : Pos} (ha : DE TS X a fa) (hb : DE TS X b fb) (hs : starEach [b] X.env = [(false, eval b X.env)] := by rfl) (hbase : attributeBase a "join" X.env (eval a X.env) = eval a X.env := by rfl) (hline : (apos.endLine == pos.line) = true := by rfl) :
    DE TS X (.Call (.Attribute a "join" apos) [b] [] pos) (eJoin fa fb) := by
  refine ⟨?_⟩
  intro W ρ σ G H Q tk re ok post
  refine wpE_of (pe_join (pe_wp X a) (pe_wp X b) hs hbase hline) ?_
  refine bindP (wp := fun R => wpE X a σ H R) back_E (fun Q' p => ha W ρ σ G H Q' tk re ok p) post fun v x G1 H1 _ g1 rx p => ?_
  cases rx with
  | str z =>
    refine ⟨⟨z, rfl⟩, ?_⟩
    refine bindP (wp := fun R => wpE X b σ H1 R) back_E (fun Q' q => hb W ρ σ G1 H1 Q' tk (re.mono g1) g1.ok q) p fun u y G2 H2 _ g2 ry p => ?_
    cases y with
    | list ds =>
      obtain ⟨q, xs, rfl, hq, r⟩ := ry.list_inv
      have p : PostG (RelE X.K) TS X W σ G2 H2 (match strsD ds with
        | some ys => if (ys.map (·.length)).sum + ys.length * z.length ≤ LIM then .ok (.str (Txt.join z ys)) else .bad
        | none => .bad) Q := p
      cases hs : strsD ds with
      | none => rw [hs] at p; exact p.elim
      | some ys =>
        rw [hs] at p
        have e := strs_of r hs
        subst e
        have p : PostG (RelE X.K) TS X W σ G2 H2 (if (ys.map (·.length)).sum + ys.length * z.length ≤ LIM then .ok (.str (Txt.join z ys)) else .bad) Q := p
        split at p
        · rename_i hl
          exact ⟨z, q, ys, rfl, rfl, .inl (ex_l g2.ok.le hq), join_line hl, fin1 g2.ok p (.str _)⟩
        · exact p.elim
    | tuple ds =>
      obtain ⟨q, xs, rfl, hq, r⟩ := ry.tup_inv
      have p : PostG (RelE X.K) TS X W σ G2 H2 (match strsD ds with
        | some ys => if (ys.map (·.length)).sum + ys.length * z.length ≤ LIM then .ok (.str (Txt.join z ys)) else .bad
        | none => .bad) Q := p
      cases hs : strsD ds with
      | none => rw [hs] at p; exact p.elim
      | some ys =>
        rw [hs] at p
        have e := strs_of r hs
        subst e
        have p : PostG (RelE X.K) TS X W σ G2 H2 (if (ys.map (·.length)).sum + ys.length * z.length ≤ LIM then .ok (.str (Txt.join z ys)) else .bad) Q := p
        split at p
        · rename_i hl
          exact ⟨z, q, ys, rfl, rfl, .inr (ex_t g2.ok.le hq), join_line hl, fin1 g2.ok p (.str _)⟩
        · exact p.elim
    | _ => exact p.elim
  | _ => exact p.elim
theorem rps_strs {K : PySem.W.Frag} {G : Hp} : ∀ ys : List Str, Rps K G (ys.map V.str) (ys.map .str)
  | [] => .nil
  | y :: ys => .cons (.str y) (rps_strs ys)
theorem dl_split {apos : Pos} (ha : DE TS X a fa) (hb : DE TS X b fb) (hs : starEach [b] X.env = [(false, eval b X.env)] := by rfl) (hbase : attributeBase a "split" X.env (eval a X.env) = eval a X.env := by rfl) (hline : (apos.endLine == pos.line) = true := by rfl) :
    DL TS X (.Call (.Attribute a "split" apos) [b] [] pos) (lSplit fa fb) := by
  refine ⟨?_⟩
  intro W ρ σ G H Q tk re ok post
  refine wpE_of (pe_split (pe_wp X a) (pe_wp X b) hs hbase hline) ?_
  refine bindP (wp := fun R => wpE X a σ H R) back_L (fun Q' p => ha W ρ σ G H Q' tk re ok p) post fun v x G1 H1 _ g1 rx p => ?_
  cases rx with
  | str z =>
    refine ⟨⟨z, rfl⟩, ?_⟩
    refine bindP (wp := fun R => wpE X b σ H1 R) back_L (fun Q' q => hb W ρ σ G1 H1 Q' tk (re.mono g1) g1.ok q) p fun u y G2 H2 _ g2 ry p => ?_
    cases ry with
    | str w =>
      have p : PostG (RelL X.K) TS X W σ G2 H2 (if w.length ≠ 0 ∧ z.length + 2 ≤ LIM then .ok ((Txt.split z w).map .str) else .bad) Q := p
      split at p
      · rename_i h
        refine ⟨z, w, rfl, rfl, by simpa using h.1, lim_line h.2, fun q hq => ?_⟩
        exact p _ _ _ (Gr.own (o := .lst ((Txt.split z w).map V.str)) g2.ok hq) ⟨q, _, rfl, hq, fresh_back g2.ok.le hq, upd_same, rps_strs _⟩
      · exact p.elim
    | _ => exact p.elim
  | _ => exact p.elim
end
end Pyr
set_option Elab.async false
set_option autoImplicit false
set_option linter.all false
set_option maxRecDepth 100000
set_option maxHeartbeats 1000000
namespace Pyr
open PySem PySem.Spec PyProof.Rows L2 Evl
theorem CtE.blk {X : Cx} {s : Shared} {H : Hp} {scope : Scope} {cenv : Env} {fp : List Addr} (C : CtE X) : CtE (X.blk s H scope cenv fp) := ⟨C.calm, C.nd, C.un⟩
theorem bt_len : bootBuiltins "len" = some (.builtin "len") := by decide +kernel
theorem bt_int : bootBuiltins "int" = some (.type "int") := by decide +kernel
theorem bt_str : bootBuiltins "str" = some (.type "str") := by decide +kernel
theorem bt_bool : bootBuiltins "bool" = some (.type "bool") := by decide +kernel
theorem bt_list : bootBuiltins "list" = some (.type "list") := by decide +kernel
theorem bt_tuple : bootBuiltins "tuple" = some (.type "tuple") := by decide +kernel
def Dfn (K : PySem.W.Frag) (mg : Str → Option Value) (x : Str) (st : Stmt) (ps : List Str) : Prop := ∃ f fd, L2.Fun K x x st f fd ∧ mg x = some (.ref f) ∧ Binds K fd ps []
def DefIn (K : PySem.W.Frag) (x : Str) (st : Stmt) : Prop := ∃ (f : Addr) (oc : Value) (od an : Option Addr) (sl : Array (Option Value)) (kV doc pm cd ct : Value),
  PySem.W.nsIn K mainGlobals x = some (some (.ref f)) ∧ K.lookup f = some ⟨oc, od, .func (PySem.W.fnOf x x (defArgs st) (defBody st) (defScope st) .none kV doc pm an cd ct), sl⟩ ∧ PySem.W.codeIn K cd x = true ∧ PySem.W.keepIn K (.ref f) = true
def BindOk (x : Str) (st : Stmt) (ps : List Str) : Prop := ∀ (kV doc pm : Value) (an : Option Addr) (cdv ct : Value) (us : List Value), us.length = ps.length → bindArgs (PySem.W.fnOf x x (defArgs st) (defBody st) (defScope st) .none kV doc pm an cdv ct) ⟨us, []⟩ = pure (ps.zip us)
section
variable {K : PySem.W.Frag} {mg : Str → Option Value} {h : Heap} {x : Str} {st : Stmt} {ps : List Str}
theorem DefIn.dfn (d : DefIn K x st) (X : K.In h) (G : h.Ns mainGlobals mg) (b : BindOk x st ps) : Dfn K mg x st ps := by
  obtain ⟨f, oc, od, an, sl, kV, doc, pm, cd, ct, h1, h2, h3, h4⟩ := d
  have F := fun_mk h2 h3 h4
  exact ⟨f, _, F, PySem.W.mg_of X G h1, F.binds b⟩
end
theorem fnok_mk {TS : TabList} {P : Program} {w : World} {K : PySem.W.Frag} {mg : Str → Option Value} {base : Heap} {x qual : Str} {st : Stmt} {f : Addr} {fd : FuncData} {N ps : List Str} {k : Nat} {F : Frm → Res Fl} (Fn : L2.Fun K x qual st f fd) (S : FnScope N ps (defScope st))
    (body : ∀ (cdv : Value) (A : Around) (outer : List Env) (s : Shared) (H : Hp) (E : XK), Room k (A.deeper (envOfC qual (defScope st) s.heap.objs.size f cdv)) → DSs TS (cxOf (L2N.CX P w) P w K mg base N qual (defScope st) f cdv A outer s H E) (defBody st) F) :
    FnOk P w K mg base (L2N.CX P w) (k + 1) f fd ps (spD TS K mg (defM ps.length N.length F)) := by
  refine fun_ok Fn S (fun vs H Q E h => ?_) (fun cdv A outer s H vs Q E hr h => ?_)
  · obtain ⟨G, ds, r, ok, p⟩ := h
    unfold defM at p
    split at p
    · rename_i e
      rw [r.len, e]
    · exact p.elim
  · obtain ⟨G, ds, r, ok, p⟩ := h
    unfold defM at p
    split at p
    · refine ⟨_, pss_wp _ _, body cdv A outer s H E hr (fun cls d _ H => E cls d H) (frm0 N.length ds) (L2.start N vs) G H G H (fun _ => []) _ (takes_of rfl rfl rfl rfl) (SI.start ok r) ?_⟩
      revert p
      generalize F (frm0 N.length ds) = r
      intro p
      induction r with
      | ok fl =>
        cases fl with
        | next ρ => exact fun σ' G' H' fp' _ s' => p .non G' H' s'.gr .non
        | ret rv =>
          cases rv with
          | val d => exact p
          | own ds => exact p
          | ownU dss => exact p
          | ownM xs d ys => exact p
        | brk ρ => exact p.elim
        | cont ρ => exact p.elim
      | exc c fs => exact fun C d _ G' H' m g r => p C d G' H' m g r
      | bad => exact p.elim
      | alt f ih => exact fun i => ih i (p i)
    · exact p.elim
theorem known_of {TS : TabList} {P : Program} {w : World} {K : PySem.W.Frag} {mg : Str → Option Value} {base : Heap} {x : Str} {st : Stmt} {N ps : List Str} {k : Nat} {F : Frm → Res Fl} (d : Dfn K mg x st ps) (S : FnScope N ps (defScope st))
    (body : ∀ (f : Addr) (cdv : Value) (A : Around) (outer : List Env) (s : Shared) (H : Hp) (E : XK), Room k (A.deeper (envOfC x (defScope st) s.heap.objs.size f cdv)) → DSs TS (cxOf (L2N.CX P w) P w K mg base N x (defScope st) f cdv A outer s H E) (defBody st) F) :
    Known TS P w K mg base (k + 1) x ps (defM ps.length N.length F) := by
  obtain ⟨f, fd, F1, hm, hb⟩ := d
  exact ⟨f, fd, fnok_mk F1 S (body f), hm, F1.kp, hb⟩
def scriptD (ns : List Int) : D := .list (ns.map .int)
theorem rps_ints {K : PySem.W.Frag} {G : Hp} : ∀ ns : List Int, Rps K G (ns.map V.int) (ns.map .int)
  | [] => .nil
  | n :: ns => .cons (.int n) (rps_ints ns)
def Res.All {α : Type} (R : α → Prop) : Res α → Prop
  | .ok a => R a
  | .alt f => ∀ i, (f i).All R
  | _ => False
end Pyr
set_option Elab.async false
set_option autoImplicit false
set_option linter.all false
set_option maxRecDepth 100000
set_option maxHeartbeats 1000000
namespace Pyr
open PySem PySem.Spec PyProof.Rows L2 Evl
end Pyr
set_option Elab.async false
set_option autoImplicit false
set_option linter.all false
set_option maxRecDepth 100000
set_option maxHeartbeats 1000000
namespace Pyr
open PySem PySem.Spec PyProof.Rows L2 Evl
theorem seq_ok {F1 F2 : Frm → Res Fl} {ρ ρ' : Frm} (h : F1 ρ = .ok (.next ρ')) : sSeq F1 F2 ρ = F2 ρ' := by unfold sSeq; rw [h]; rfl
theorem seq_ret {F1 F2 : Frm → Res Fl} {ρ : Frm} {r : RV} (h : F1 ρ = .ok (.ret r)) : sSeq F1 F2 ρ = .ok (.ret r) := by unfold sSeq; rw [h]; rfl
theorem bind_ok {α β : Type} {a : α} {k : α → Res β} : (Res.ok a).bind k = k a := rfl
theorem okL_ok {α : Type} {n : Nat} {r : Res α} (h : n ≤ LIM) : okL n r = r := if_pos h
theorem evP_ok {fe : En → Res D} {ρ : Frm} {d : D} (h : fe (purE ρ) = .ok d) : evP fe ρ = .ok d := by unfold evP; rw [h]
theorem evL_ok {fe : En → Res (List D)} {ρ : Frm} {d : List D} (h : fe (purE ρ) = .ok d) : evL fe ρ = .ok d := by unfold evL; rw [h]
theorem evP_frz {fe : En → Res D} {ρ : Frm} {d : D} (h : fe (purE ρ) = .bad) (h2 : fe (frzE ρ) = .ok d) (hd : flat0 d = true) : evP fe ρ = .ok d := by unfold evP; rw [h, h2]; show (if flat0 d = true then Res.ok d else .bad) = _; rw [if_pos hd]
theorem evT_ok {ft : En → Res Bool} {ρ : Frm} {b : Bool} (h : ft (frzE ρ) = .ok b) : evT ft ρ = .ok b := by unfold evT; rw [h]; rfl
theorem set_ok {i : Nat} {fe : En → Res D} {ρ : Frm} {d : D} (h : fe (purE ρ) = .ok d) : sSet i fe ρ = .ok (.next (ρ.set i (.val d))) := by unfold sSet; rw [evP_ok h]; rfl
theorem setL_ok {i : Nat} {fe : En → Res (List D)} {ρ : Frm} {d : List D} (h : fe (purE ρ) = .ok d) : sSetL i fe ρ = .ok (.next (ρ.set i (.own (.lst d)))) := by unfold sSetL; rw [evL_ok h]; rfl
theorem if_ok {ft : En → Res Bool} {F1 F2 : Frm → Res Fl} {ρ : Frm} {b : Bool} (h : ft (frzE ρ) = .ok b) : sIf ft F1 F2 ρ = if b then F1 ρ else F2 ρ := by unfold sIf; rw [evT_ok h]; rfl
theorem ret_ok {fe : En → Res D} {ρ : Frm} {d : D} (h : fe (purE ρ) = .ok d) : sRet fe ρ = .ok (.ret (.val d)) := by unfold sRet; rw [evP_ok h]; rfl
theorem app_ok {i : Nat} {fe : En → Res D} {ρ : Frm} {ds : List D} {d : D} (h : ρ[i]? = some (Sl.own (.lst ds))) (he : fe (purE ρ) = .ok d) (hl : ds.length + 1 ≤ LIM) : sApp i fe ρ = .ok (.next (ρ.set i (.own (.lst (ds ++ [d]))))) := by unfold sApp; rw [h]; show (evP fe ρ).bind _ = _; rw [evP_ok he]; exact okL_ok hl
theorem for_ok {t : Tg} {fi : En → Res (List D)} {F : Frm → Res Fl} {ρ : Frm} {ds : List D} (h : fi (purE ρ) = .ok ds) : sFor t fi F ρ = forF t F ds ρ := by unfold sFor evI; rw [h]; rfl
theorem forR_ok {t : Tg} {fi : En → Res (List D)} {F : Frm → Res Fl} {ρ : Frm} {ds : List D} (h : fi (frzE ρ) = .ok ds) (hf : ds.all flat0 = true) : sForR t fi F ρ = forF t F ds ρ := by unfold sForR evR; rw [h]; show (if ds.all flat0 = true then Res.ok ds else .bad).bind _ = _; rw [if_pos hf]; rfl
theorem upto_flat : ∀ (n : Nat) (lo : Int), (upto lo n).all flat0 = true
  | 0, _ => rfl
  | n + 1, lo => upto_flat n (lo + 1)
theorem defM_eq {np n : Nat} {F : Frm → Res Fl} {ds : List D} (h : ds.length = np) : defM np n F ds = outR (F (frm0 n ds)) := if_pos h
theorem compF_map {t : Tg} {tt : En → Res Bool} {fe : En → Res D} {ρ : En} {g : D → D} : ∀ ds : List D, (∀ d ∈ ds, ∃ ρ1, tgE t d ρ = .ok ρ1 ∧ tt ρ1 = .ok true ∧ fe ρ1 = .ok (g d)) → compF t tt fe ρ ds = .ok (ds.map g)
  | [], _ => rfl
  | d :: ds, h => by
    obtain ⟨ρ1, h1, h2, h3⟩ := h d List.mem_cons_self
    show (tgE t d ρ).bind _ = _
    rw [h1]
    show (noX (tt ρ1)).bind _ = _
    rw [h2]
    show (noX (fe ρ1)).bind _ = _
    rw [h3]
    show (compF t tt fe ρ ds).bind _ = _
    rw [compF_map ds fun d hd => h d (List.mem_cons_of_mem _ hd)]
    rfl
theorem strs_map : ∀ ys : List Str, strsD (ys.map .str) = some ys
  | [] => rfl
  | y :: ys => by show (strsD (ys.map .str)).map _ = _; rw [strs_map ys]; rfl
theorem cut_front {α : Type} (xs : List α) (n : Nat) : cutG xs none (some (n : Int)) = xs.take n := by
  unfold cutG
  rw [HT.sIx_none, HT.sIx_nat, List.drop_zero, Nat.sub_zero]
  by_cases h : n ≤ xs.length
  · rw [Nat.min_eq_left h]
  · rw [Nat.min_eq_right (by omega), List.take_of_length_le (by omega), List.take_of_length_le (by omega)]
theorem eqv_str (a b : Str) : PyData.eqv (.str a) (.str b) = decide (a = b) := by
  simp only [PyData.eqv]
  rw [Bool.eq_iff_iff]
  simp
theorem eqv_int (a b : Int) : PyData.eqv (.int a) (.int b) = decide (a = b) := by
  simp only [PyData.eqv]
  rw [Bool.eq_iff_iff]
  simp
theorem eqD_str (a b : Str) : eqD (.str a) (.str b) = .ok (.bool (decide (a = b))) := by
  unfold eqD
  rw [eqv_str]
  rfl
theorem eqD_int (a b : Int) : eqD (.int a) (.int b) = .ok (.bool (decide (a = b))) := by
  unfold eqD
  rw [eqv_int]
  rfl
theorem neD_int (a b : Int) : neD (.int a) (.int b) = .ok (.bool (!decide (a = b))) := by
  unfold neD
  rw [eqv_int]
  rfl
theorem neD_str (a b : Str) : neD (.str a) (.str b) = .ok (.bool (!decide (a = b))) := by
  unfold neD
  rw [eqv_str]
  rfl
theorem r1D_nat {n : Nat} (h : n ≤ LIM) : r1D (.int n) = .ok (upto 0 n) := by
  have h : n ≤ 100000 := h
  have e : -(2 ^ 62) ≤ (n : Int) ∧ (n : Int) < 2 ^ 62 := by omega
  simp only [r1D, if_pos e, Int.toNat_natCast]
theorem at_str {x : Str} {k : Nat} {c : Nat} (h : x.cps.toList[k]? = some c) (hl : x.length ≤ LIM) : atD (.str x) (.int (k : Int)) = .ok (.str ⟨#[c]⟩) := by
  unfold atD
  simp only [okL_ok hl, atI_nat h]
theorem at_list {xs : List D} {k : Nat} {d : D} (h : xs[k]? = some d) : atD (.list xs) (.int (k : Int)) = .ok d := by
  unfold atD
  simp only [atI_nat h]
theorem at_tup {xs : List D} {k : Nat} {d : D} (h : xs[k]? = some d) : atD (.tuple xs) (.int (k : Int)) = .ok d := by
  unfold atD
  simp only [atI_nat h]
theorem forF_next {t : Tg} {F : Frm → Res Fl} {d : D} {ds : List D} {ρ ρ1 ρ2 : Frm} (h : tgF t d ρ = .ok ρ1) (hb : F ρ1 = .ok (.next ρ2)) : forF t F (d :: ds) ρ = forF t F ds ρ2 := by
  show (tgF t d ρ).bind _ = _
  rw [h]
  show (F ρ1).bind _ = _
  rw [hb]
  rfl
theorem forF_ret {t : Tg} {F : Frm → Res Fl} {d : D} {ds : List D} {ρ ρ1 : Frm} {r : RV} (h : tgF t d ρ = .ok ρ1) (hb : F ρ1 = .ok (.ret r)) : forF t F (d :: ds) ρ = .ok (.ret r) := by
  show (tgF t d ρ).bind _ = _
  rw [h]
  show (F ρ1).bind _ = _
  rw [hb]
  rfl
end Pyr
set_option Elab.async false
set_option autoImplicit false
set_option linter.all false
set_option maxRecDepth 100000
set_option maxHeartbeats 2000000
namespace Pyr
open PySem PySem.Spec PyProof.Rows L2 Evl
abbrev gxX (X : Cx) (A' : Around) (s : Shared) (H : Hp) (cenv : Env) (fp : List Addr) (pn : List (Addr × Obj)) : Cx :=
  { X with A := A', s_0 := s, H_0 := H, env := cenv, outer := X.stack, stack := cenv :: X.stack, ex := fp, fn := fun _ => false, pn := pn, xe := fun _ _ => False }
abbrev gxE (X : Cx) (scope : Scope) (cl : List (Str × Addr)) (C : Addr) (code : Value) : Env := genEnv scope cl C code builtinsNs X.env
theorem inv_gens {X : Cx} {pins : List (Addr × Obj)} {σ : L2.St} {H : Hp} {s : Shared} (I : Inv X pins σ H s) {s' : Shared} (hh : s'.heap = s.heap) (ho : s'.os = s.os) (hb : AllBare s'.gens) : Inv X pins σ H s' := by
  obtain ⟨h, g, d, t, o⟩ := s'
  have hh : h = s.heap := hh
  have ho : o = s.os := ho
  subst hh
  subst ho
  exact ⟨I.ok, I.os, hb, I.base, I.loc, I.cell, I.free, I.freeC, I.pin, I.hok, I.len⟩
structure Caught (scope : Scope) (old new : List (Str × Addr)) : Prop where
  old : ∀ y c, new.lookup y = some c → old.lookup y = some c
  has : ∀ y, scope.names.lookup y = some .free → ∃ c, new.lookup y = some c
section
variable {X : Cx} {pins : List (Addr × Obj)} {σ : L2.St} {H : Hp} {s : Shared} {scope : Scope} {own : List (Str × Nat)} {fp : List Addr}
theorem all_caught (I : Inv X pins σ H s) (ok : BlkOk X.N X.env.scope scope own) (y : Str × NameKind) (hy : y ∈ scope.names) (e : y.2 = .free) : ∃ c, X.env.cells.lookup y.1 = some c :=
  I.ok.has y.1 (ok.free y hy e)
theorem caught_of (I : Inv X pins σ H s) (ok : BlkOk X.N X.env.scope scope own) : Caught scope X.env.cells (cloFrom X.env.cells scope.names []) where
  old := fun y c e => (cloFrom_mem (PySem.mem_of_lookup e)).elim (fun z => nomatch z) fun ⟨m, e2⟩ => by
    obtain ⟨c', hc⟩ := all_caught I ok (y, .free) m rfl
    rw [e2, hc, Option.getD_some]
  has := fun y e => mem_lookup (cloFrom_has (acc := []) (PySem.mem_of_lookup e))
theorem free_of (ok : BlkOk X.N X.env.scope scope own) (hN : X.N.Nodup) {i : Nat} {y : Str} {v : V} (hi : X.N[i]? = some y) (hv : (wipe σ (own.map (·.2)))[i]? = some (some v)) (h : Vis scope y) : scope.names.lookup y = some .free := by
  have key : ∀ k, scope.names.lookup y = some k → k = .local ∨ k = .cell → False := fun k e hk => (ok.own (y, k) (PySem.mem_of_lookup e) hk).elim
    (fun m => by
      obtain ⟨q, q1, q2⟩ := List.mem_map.mp m
      have q3 : X.N[q.2]? = some y := (ok.ix q q1).trans (congrArg some q2)
      exact (wipe_some hv).2 (nodup_ix hN q3 hi ▸ List.mem_map_of_mem q1))
    fun m => m (List.mem_of_getElem? hi)
  exact h.elim (fun e => (key _ e (.inl rfl)).elim) fun h => h.elim (fun e => (key _ e (.inr rfl)).elim) id
theorem gx_ok {A' : Around} {cenv : Env} {pn : List (Addr × Obj)} (I : Inv X pins σ H s) (ok : BlkOk X.N X.env.scope scope own) (hcell : ∀ y ∈ scope.names, y.2 ≠ .cell) (hfp : ∀ b ∈ fp, FpOk X pins H b ∧ b < s.heap.objs.size) (hA : A'.handled = none) (hfr : A'.frames = some (cenv :: X.stack))
    (e1 : cenv.scope = scope) (e2 : cenv.globals = X.env.globals) (e3 : cenv.builtins = builtinsNs) (e4 : cenv.locals = s.heap.objs.size) (e5 : cenv.frame = some s.heap.objs.size) (ca : Caught scope X.env.cells cenv.cells) : (gxX X A' s H cenv fp pn).Ok where
  mod := I.ok.mod
  kind := (congrArg Scope.kind e1).trans ok.kind
  glob := e2.trans I.ok.glob
  blt := e3
  above := Nat.le_of_eq e4.symm
  inj := fun x y c h1 h2 => I.ok.inj x y c (ca.old x c h1) (ca.old y c h2)
  has := fun y h => by
    have h : scope.names.lookup y = some .cell ∨ scope.names.lookup y = some .free := by rw [← e1]; exact h
    exact h.elim (fun e => (hcell _ (PySem.mem_of_lookup e) rfl).elim) (ca.has y)
  cab := fun y c z => nomatch (show false = true from z)
  hd := fun _ => hA
  frames := hfr
  stk := .inr ⟨rfl, e5.trans (congrArg some e4.symm)⟩
  exf := fun b hb => ⟨fun z => Nat.lt_irrefl _ (e4 ▸ z ▸ (hfp b hb).2), fun y c e => (hfp b hb).1.2.2.2.2.1 y c (ca.old y c e)⟩
  bs := I.bs
  bsz := Nat.le_trans I.ok.bsz I.sz
  noex := fun b o e hb => ((hfp b hb).1.2.2.2.1).elim (I.ok.noex b o e) fun z => Nat.not_lt.mpr (Nat.le_trans I.ok.bsz z) (Heap.lt_size e)
  exfs := fun b hb z => (List.mem_cons.mp (I.stkSub b z)).elim (hfp b hb).1.2.1 (hfp b hb).1.2.2.1
  funs := I.stack
  frf := I.stkFree
theorem gx_start {A' : Around} {code it : Value} {h' : Heap} {gobj : Obj} {gens' : Array GenState} {tk : Nat} (I : Inv X pins σ H s) (ok : BlkOk X.N X.env.scope scope own) (hN : X.N.Nodup) (hcell : ∀ y ∈ scope.names, y.2 ≠ .cell)
    (hfp : ∀ b ∈ fp, FpOk X pins H b ∧ b < s.heap.objs.size) (hA : A'.handled = none) (hfr : A'.frames = some (gxE X scope (cloFrom X.env.cells scope.names []) s.heap.objs.size code :: X.stack)) (hgob : ∀ v, gobj.data ≠ .cell v) (hgf : gobj.isFreed = false)
    (hn' : h'.Ns s.heap.objs.size (fun y => if y = ".0" then some it else none)) (hs' : Heap.SameBut s.heap.objs.size (s.heap.push { cls := .type "frame", data := .dict #[] }) h') (hdot : (".0" : Str) ∉ X.N) (hgb : AllBare gens') :
    Inv (gxX X A' s H (gxE X scope (cloFrom X.env.cells scope.names []) s.heap.objs.size code) fp [(h'.objs.size, gobj)]) [] (wipe σ (own.map (·.2))) H { s with gens := gens', toks := tk, heap := h'.push gobj } := by
  have ca := caught_of I ok
  have hsz : h'.objs.size = s.heap.objs.size + 1 := hs'.1.trans (Heap.size_push ..)
  have old : ∀ b o, s.heap.get? b = some o → (h'.push gobj).get? b = some o := fun b o e => Heap.get?_push_of_some _ (hs'.extBut b o (Nat.ne_of_lt (Heap.lt_size e)) (Heap.get?_push_of_some _ e))
  exact {
    ok := gx_ok I ok hcell hfp hA hfr rfl rfl rfl rfl rfl ca
    os := rfl
    bare := hgb
    base := Un.kept old
    loc := ⟨_, hn'.push _, fun i y v hi hv hy => by
      have fr := free_of ok hN hi hv hy
      obtain ⟨m, _, see⟩ := I.loc
      have cf := ok.free _ (PySem.mem_of_lookup fr) rfl
      obtain ⟨u, ru, lk⟩ := see i y v hi (wipe_some hv).1 (.inr cf)
      obtain ⟨c, c1⟩ := ca.has y fr
      refine ⟨u, ru, .inr ⟨.inr fr, c, c1, ?_⟩⟩
      cases lk with
      | inl z => exact cf.elim (fun k => nomatch (show some NameKind.local = some .cell from z.1.symm.trans k)) fun k => nomatch (show some NameKind.local = some .free from z.1.symm.trans k)
      | inr z =>
        obtain ⟨_, c2, e2, cell⟩ := z
        have e3 : some c = some c2 := (ca.old y c c1).symm.trans e2
        cases e3
        exact cell.keeps old⟩
    cell := fun y c e => (I.cell y c (ca.old y c e)).imp fun _ z => z.keeps old
    free := I.hok.fresh (Nat.le_refl _)
    freeC := fun y c e => I.freeC y c (ca.old y c e)
    pin := fun p hp => by
      obtain rfl : p = (h'.objs.size, gobj) := by simpa using hp
      have le : s.heap.objs.size ≤ h'.objs.size := Nat.le.intro hsz.symm
      refine ⟨Heap.get?_push_size _ hgf, I.hok.fresh le, fun z => Nat.succ_ne_self s.heap.objs.size (hsz.symm.trans z), fun z => ?_, hgob⟩
      exact (List.mem_cons.mp (I.stkSub _ z)).elim (fun e => Nat.not_lt.mpr le (Nat.lt_of_le_of_lt (Nat.le_of_eq e) I.lt)) (I.nofs le)
    hok := I.hok.kept old
    len := (L2.wipe_length σ _).trans I.len }
end
structure Grown (P : Addr) (H H' : Hp) (code : Value) : Prop where
  keep : ∀ a u, a ≠ P → H a = some u → H' a = some u
  tb : ∀ Q, TblOk H Q → TblOk H' Q
  code : ∃ c' P' o, code = .ref c' ∧ H' c' = some (codeO o c' P') ∧ TblOk H' P'
def tGx (P : Addr) (cd : Hp → Prop) (isAll : Bool) (wi : TI) (g : TG) (tt : Value → TT) (te : Value → TE) (vs : List Nat) : TE := fun σ H Q => wi σ H fun J H1 => (TblOk H1 P ∧ cd H1) ∧ ∀ code H1', Grown P H1 H1' code → ∃ W : Nat → Nat → Hp → Prop, (∃ m, W 0 m H1') ∧ ∀ i m H, W i m H →
  (J.stop i H ∧ Q (.bl isAll) H) ∨ (J.go i H ∧ ∃ Nx : Hp → Prop, (∀ H', Nx H' → ∃ m', m' < m ∧ W (i + 1) m' H') ∧ ∀ x H', J.yld i H x H' → g x (wipe σ vs) H' fun σ2 H2 => wipe σ2 vs = wipe σ vs ∧ tt code σ2 H2 fun b H3 =>
    if b = true then te code σ2 H3 fun y H4 => ∃ c, y = .bl c ∧ (if c = isAll then Nx H4 else Q (.bl c) H4) else Nx H3)
def gxY (Y : Cx) (isAll : Bool) (Q : VK) : Protocol := fun n s₀ v s kap => ∃ (c : Bool) (σ : L2.St) (H : Hp) (pl : List (Addr × Obj)), v = .bool c ∧ Inv Y pl σ H s ∧ if c = isAll then ∀ s', s'.heap = s.heap → s'.os = s.os → AllBare s'.gens → kap (.send .none) s' else Q (.bl c) H
def gxR (Y : Cx) (isAll : Bool) (Q : VK) : GenEnd := fun n s₀ r s => r = .ok .next ∧ ∃ (σ : L2.St) (H : Hp) (pl : List (Addr × Obj)), Inv Y pl σ H s ∧ Q (.bl isAll) H
section
variable {Y : Cx} {B : Around} {elt tg iter : Expr} {ifs : List Expr} {scope : Scope} {pos : Pos} {it : Addr} {fp : List Addr} {tn : Nat → Heap → Prop} {J : It} {g : TG} {tt : TT} {te : TE} {vs : List Nat} {σ : L2.St} {Q : VK} {isAll : Bool} {W : Nat → Nat → Hp → Prop}
theorem pin_stay {b : Addr} {o : Obj} {h : Heap} {σ' : L2.St} {H' : Hp} {s' : Shared} (I : Inv Y ([] ++ pinsAt fp h) σ' H' s') (hb : b ∈ fp) (e : h.get? b = some o) : s'.heap.get? b = some o ∧ H' b = none :=
  (I.pin (b, o) (List.mem_append.mpr (.inr (List.mem_append.mpr (.inr (mem_pinsAt hb e)))))).imp id And.left
theorem gx_loop (hc : Y.calm = true) (hYA : Y.A = B.over (.compLoop (.GeneratorExp elt [⟨tg, iter, ifs, 0⟩] scope pos) 0 (.ref it) .none Y.env) []) (hex : Y.ex = fp) (hxe : Y.xe = fun _ _ => False) (hco : Y.env.scope.isCoroutine = false) (hpn : ∀ p ∈ Y.pn, p.1 ∉ fp)
    (T : Turn Y.prog Y.w Y.K tg J fp it tn) (hg : PG Y tg g) (ht : PTs Y ifs tt) (he : PE Y elt te)
    (turn : ∀ i m H, W i m H → (J.stop i H ∧ Q (.bl isAll) H) ∨ (J.go i H ∧ ∃ Nx : Hp → Prop, (∀ H', Nx H' → ∃ m', m' < m ∧ W (i + 1) m' H') ∧ ∀ x H', J.yld i H x H' → g x (wipe σ vs) H' fun σ2 H2 => wipe σ2 vs = wipe σ vs ∧ tt σ2 H2 fun b H3 =>
      if b = true then te σ2 H3 fun y H4 => ∃ c, y = .bl c ∧ (if c = isAll then Nx H4 else Q (.bl c) H4) else Nx H3)) :
    ∀ (m n : Nat) (i : Nat) (H : Hp) (s₀ s : Shared), m < n → Inv Y [] (wipe σ vs) H s → tn i s.heap → (∀ b ∈ fp, H b = none) → W i m H →
      Seg (model Y.prog Y.w) B (gxR Y isAll Q) (gxY Y isAll Q) n s₀ (.compLoop (.GeneratorExp elt [⟨tg, iter, ifs, 0⟩] scope pos) 0 (.ref it) .none Y.env)
        ((model Y.prog Y.w).den (.compLoop (.GeneratorExp elt [⟨tg, iter, ifs, 0⟩] scope pos) 0 (.ref it) .none Y.env)) [] s := by
  have stat : ∀ {σ' : L2.St} {H' : Hp} {s' : Shared}, Inv Y [] σ' H' s' → (∀ b ∈ fp, H' b = none) → ∀ b ∈ fp, FpOk Y [] H' b := fun {σ' H' s'} I' hn b hb =>
    have hb' : b ∈ Y.ex := by rw [hex]; exact hb
    ⟨hn b hb, (I'.ok.exf b hb').1, I'.ok.exfs b hb', .inl hb', fun x c e => (I'.ok.exf b hb').2 x c e, fun p hp z => by
      rw [List.append_nil] at hp
      exact hpn p hp (by rw [z]; exact hb)⟩
  have noX : ∀ {α : Type} {t : Sem α} {Q' : α → Shared → Prop} {s' : Shared}, wpAny (model Y.prog Y.w) Y.A t Q' Y.xe s' → wpAny (model Y.prog Y.w) Y.A t Q' (fun _ _ => False) s' := fun h => by
    rw [hxe] at h
    exact h
  intro m
  induction m using Nat.strongRecOn with
  | ind m ih =>
    intro n i H s₀ s hmn I st hn w
    show Seg _ B _ _ _ s₀ _ ((compTurn (.GeneratorExp elt [⟨tg, iter, ifs, 0⟩] scope pos) 0 (.ref it) .none Y.env).onRaise (leaving Y.env)) [] s
    rw [compTurn_gen, Sem.onRaise_eq_wrap]
    refine seg_bind_wrap (wpAny_standAt ?_)
    rcases turn i m H w with ⟨stop, qq⟩ | ⟨go, Nx, hNx, step⟩
    · refine seg_bind_wrap ?_
      rw [← hYA]
      refine thnF (T.done Y rfl rfl rfl hc i [] s _ H (fun _ _ => False) I (stat I hn) st stop) fun r s1 ⟨hr, I1⟩ => ?_
      subst hr
      exact seg_end (.ok .next) ⟨rfl, _, _, _, I1, qq⟩
    · refine seg_bind_wrap ?_
      rw [← hYA]
      refine thnF (T.item Y rfl rfl rfl hc i [] s _ H (fun _ _ => False) I (stat I hn) st go) fun r s1 ⟨u, hr, h1⟩ => ?_
      subst hr
      refine seg_bind_wrap ?_
      rw [← hYA]
      refine thnF h1 fun _ s2 ⟨x, H2, I2, r2, y2, st2, n2⟩ => ?_
      have I2' := I2.pinned (stat I2 n2) (T.obj _ _ st2)
      refine seg_bind_wrap ?_
      rw [← hYA]
      refine thnF (noX (hg.run _ s2 _ H2 x u _ I2' r2 (step x H2 y2))) fun _ s3 ⟨σ3, H3, I3, hw3, q3⟩ => ?_
      refine seg_bind_wrap ?_
      rw [← hYA]
      refine thnF (noX (ht.run _ s3 σ3 H3 _ I3 q3)) fun b s4 ⟨H4, I4, q4⟩ => ?_
      have fin : ∀ {n' : Nat} {s₁ s' : Shared} {H' : Hp}, m ≤ n' → Inv Y ([] ++ pinsAt fp s2.heap) σ3 H' s' → Nx H' →
          Seg (model Y.prog Y.w) B (gxR Y isAll Q) (gxY Y isAll Q) n' s₁ (.compLoop (.GeneratorExp elt [⟨tg, iter, ifs, 0⟩] scope pos) 0 (.ref it) .none Y.env)
            ((model Y.prog Y.w).den (.compLoop (.GeneratorExp elt [⟨tg, iter, ifs, 0⟩] scope pos) 0 (.ref it) .none Y.env)) [] s' := fun {n' s₁ s' H'} hn' I' nx => by
        obtain ⟨mm, lt, w'⟩ := hNx H' nx
        have hl : (wipe σ vs).length = σ3.length := by rw [← hw3, L2.wipe_length]
        refine ih mm lt n' (i + 1) H' s₁ s' (by omega) ((I'.unpinned (pins := [])).weak hl (fun j v e => ?_)) (T.keep _ _ _ st2 fun b hb o e => (pin_stay I' hb e).1) (fun b hb => ?_) w'
        · rw [← hw3] at e
          exact (wipe_some e).1
        · obtain ⟨o, e, _⟩ := T.obj _ _ st2 b hb
          exact (pin_stay I' hb e).2
      cases b with
      | false =>
        simp only [Bool.false_eq_true, if_false] at q4 ⊢
        exact seg_again rfl (fin (by omega) I4 q4)
      | true =>
        simp only [if_true] at q4 ⊢
        have hy : ∀ v, yieldOut Y.env v = yieldValue v := fun v => by simp only [yieldOut, hco, Bool.false_eq_true, if_false]
        simp only [hy]
        rw [Sem.bind_eq_wrap', Sem.bind_eq_wrap', Sem.wrap_wrap, Sem.wrap_wrap]
        refine seg_wrap ?_
        rw [← hYA]
        refine thnF (noX (he.run _ s4 σ3 H4 _ I4 q4)) fun z s5 ⟨yv, H5, I5, r5, c, hyc, q5⟩ => ?_
        subst hyc
        cases r5
        obtain ⟨n', rfl⟩ : ∃ n', n = n' + 1 := ⟨n - 1, by omega⟩
        refine seg_at (seg_yield rfl rfl rfl ⟨c, σ3, H5, _, rfl, I5, ?_⟩)
        split at q5
        · rename_i hcA
          rw [if_pos hcA]
          intro s' hh ho hb
          exact seg_again rfl (fin (by omega) (inv_gens I5 hh ho hb) q5)
        · rename_i hcA
          rw [if_neg hcA]
          exact q5
end
end Pyr
set_option Elab.async false
set_option autoImplicit false
set_option linter.all false
set_option maxRecDepth 100000
set_option maxHeartbeats 2000000
namespace Pyr
open PySem PySem.Spec PyProof.Rows L2 Evl
theorem gx_drain_all {Y : Cx} {A1 : Around} {a : Addr} {g : Nat} {Q : VK} {R : Result → Shared → Prop} (hh : A1.handled = none) (hd : A1.depth < recursionLimit) (hY : ∀ (pl : List (Addr × Obj)) (σ : L2.St) (H : Hp) (s : Shared), Inv Y pl σ H s → s.heap.IsGen a g)
    (hR : ∀ (c : Bool) (pl : List (Addr × Obj)) (σ : L2.St) (H : Hp) (s : Shared) (h' : Heap) (gens' : Array GenState), Inv Y pl σ H s → Q (.bl c) H → AllBare gens' → (∀ b o, s.heap.get? b = some o → h'.get? b = some o) → R (.ok (.ret (.bool c))) { s with heap := h', gens := gens' }) :
    ∀ (n : Nat) (s : Shared), s.heap.IsGen a g → s.heap.NoLimit →
      (∃ gs, s.gens[g]? = some gs ∧ gs.Goes (model Y.prog Y.w) A1.in1.in1 (gxR Y true Q) (gxY Y true Q) n (.send .none) (s.setGen g .running)) →
      codeAny (model Y.prog Y.w) A1 (.builtin "all.loop" ⟨[.ref a], []⟩) R s := by
  intro n
  induction n with
  | zero =>
    intro s hg hl ⟨gs, hgs, hgo⟩
    refine codeAny_builtin F.entry_all_loop ?_
    rw [Around.under_plainId F.plain_all_loop _]
    show wpAny _ A1.in1 (pyNext (.ref a) >>= _) _ _ s
    refine wpAny_bind (wpAny_pyNext_genexpQ (A := A1.in1) (P := fun n s₀ s₁ => ∃ (σ : L2.St) (H : Hp) (pl : List (Addr × Obj)), Inv Y pl σ H s₁ ∧ Q (.bl true) H) hh hl hd hg hgs hgo (fun v s₁ gs' hb hv => ?_) (fun s₁ hp h' hk => ?_))
    · obtain ⟨c, σ, H, pl, rfl, I, q⟩ := hv
      refine wpAny_bind (wpAny_holding (wpAny_truthy_bool ?_))
      refine wpAny_bind (wpAny_letGo ?_)
      by_cases hc : c = true
      · rw [if_pos hc] at q
        exact (q s₁ rfl rfl I.bare).elim
      · rw [if_neg hc] at q
        have e : c = !true := by cases c <;> simp_all
        subst e
        simp only [Bool.not_true, Bool.not_false, if_true, Bool.false_eq_true, if_false]
        refine wpAny_bind (wpAny_rule (wpAny_pure ?_))
        exact hR _ pl σ H s₁ s₁.heap (s₁.setGen g gs').gens I q (allBare_setGen I.bare hb) fun _ _ z => z
    · obtain ⟨σ, H, pl, I, q⟩ := hp
      refine wpAny_bind (wpAny_rule (wpAny_pure ?_))
      exact hR true pl σ H s₁ h' (s₁.setGen g .finished).gens I q (allBare_setGen I.bare rfl) hk
  | succ m ih =>
    intro s hg hl ⟨gs, hgs, hgo⟩
    have gIn : g < s.gens.size := (Array.getElem?_eq_some_iff.mp hgs).1
    refine codeAny_builtin F.entry_all_loop ?_
    rw [Around.under_plainId F.plain_all_loop _]
    show wpAny _ A1.in1 (pyNext (.ref a) >>= _) _ _ s
    refine wpAny_bind (GenW.wpAny_gsz (n := g + 1) gIn (wpAny_pyNext_genexpQ (A := A1.in1) (P := fun n s₀ s₁ => ∃ (σ : L2.St) (H : Hp) (pl : List (Addr × Obj)), Inv Y pl σ H s₁ ∧ Q (.bl true) H) hh hl hd hg hgs hgo (fun v s₁ gs' hb hv => ?_) (fun s₁ hp h' hk => ?_)))
    · intro hsz
      have gIn1 : g < s₁.gens.size := by
        have q : (s₁.setGen g gs').gens.size = s₁.gens.size := GenW.setGen_size _ _ _
        have more : g + 1 ≤ (s₁.setGen g gs').gens.size := hsz
        omega
      obtain ⟨c, σ, H, pl, rfl, I, q⟩ := hv
      refine wpAny_bind (wpAny_holding (wpAny_truthy_bool ?_))
      refine wpAny_bind (wpAny_letGo ?_)
      by_cases hc : c = true
      · rw [if_pos hc] at q
        subst hc
        simp only [if_true, Bool.false_eq_true, if_false]
        refine wpAny_pure ⟨plainId_quiet F.plain_all_loop _, ?_⟩
        exact ih (s₁.setGen g gs') (hY pl σ H s₁ I) I.nolimit ⟨gs', setGen_at gIn1, q _ rfl rfl (allBare_setGen (s := s₁.setGen g gs') (allBare_setGen I.bare hb) rfl)⟩
      · rw [if_neg hc] at q
        have e : c = !true := by cases c <;> simp_all
        subst e
        simp only [Bool.not_true, Bool.not_false, if_true, Bool.false_eq_true, if_false]
        refine wpAny_bind (wpAny_rule (wpAny_pure ?_))
        exact hR _ pl σ H s₁ s₁.heap (s₁.setGen g gs').gens I q (allBare_setGen I.bare hb) fun _ _ z => z
    · intro _
      obtain ⟨σ, H, pl, I, q⟩ := hp
      refine wpAny_bind (wpAny_rule (wpAny_pure ?_))
      exact hR true pl σ H s₁ h' (s₁.setGen g .finished).gens I q (allBare_setGen I.bare rfl) hk
end Pyr
set_option Elab.async false
set_option autoImplicit false
set_option linter.all false
set_option maxRecDepth 100000
set_option maxHeartbeats 2000000
namespace Pyr
open PySem PySem.Spec PyProof.Rows L2 Evl
def GxReady (X : Cx) (pins : List (Addr × Obj)) (σ : L2.St) (isAll : Bool) (Q : VK) (a : Addr) (s5 : Shared) : Prop :=
  ∃ (A' : Around) (s4 : Shared) (H4 : Hp) (cenv : Env) (fp : List Addr) (pn : List (Addr × Obj)) (gi n : Nat), s5.heap.IsGen a gi ∧ s5.heap.NoLimit ∧
    (∃ gs, s5.gens[gi]? = some gs ∧ gs.Goes (model X.prog X.w) X.A.in1.in1 (gxR (gxX X A' s4 H4 cenv fp pn) isAll Q) (gxY (gxX X A' s4 H4 cenv fp pn) isAll Q) n (.send .none) (s5.setGen gi .running)) ∧
    (∀ (pl : List (Addr × Obj)) (σ' : L2.St) (H' : Hp) (s' : Shared), Inv (gxX X A' s4 H4 cenv fp pn) pl σ' H' s' → s'.heap.IsGen a gi) ∧
    (∀ (c : Bool) (pl : List (Addr × Obj)) (σ' : L2.St) (H' : Hp) (s' : Shared) (h' : Heap) (gens' : Array GenState), Inv (gxX X A' s4 H4 cenv fp pn) pl σ' H' s' → Q (.bl c) H' → AllBare gens' → (∀ b o, s'.heap.get? b = some o → h'.get? b = some o) → EP X pins σ Q (.bool c) { s' with heap := h', gens := gens' })
section
variable {X : Cx} {pins : List (Addr × Obj)} {σ : L2.St} {H : Hp} {s : Shared} {elt tg iter : Expr} {ifs : List Expr} {scope : Scope} {own : List (Str × Nat)} {gpos : Pos} {wi : TI} {g : TG} {tt : TT} {te : TE} {c P : Addr} {k : Nat} {isAll : Bool} {Q : VK} {Q' : Value → Shared → Prop}
theorem ne_lt {a b n : Nat} (h : a < n) (k : n ≤ b) : a ≠ b := Nat.ne_of_lt (Nat.lt_of_lt_of_le h k)
theorem codeHd_stay {c P : Addr} {h1 h2 : Heap} (x : PySem.W.CodeHd h1 c P) (k : ∀ o, h1.get? c = some o → h2.get? c = some o) : PySem.W.CodeHd h2 c P :=
  let ⟨o, vs, file, tf, flags, tg, inF, text, tt, e, r⟩ := x; ⟨o, vs, file, tf, flags, tg, inF, text, tt, k _ e, r⟩
theorem codeO_ok {P0 : Program} {w : World} {H : Hp} {h : Heap} {c P : Addr} {o : Obj} (e : h.get? c = some o) (x : PySem.W.CodeHd h c P) : ObjOk P0 w H h c (codeO o c P) :=
  ⟨e, x, ⟨o, e⟩, fun _ _ a k => codeHd_stay a k⟩
theorem inv_code {pins : List (Addr × Obj)} {σ : L2.St} {H : Hp} {s : Shared} {P c' P' : Addr} {ps ps' : Array Value} {h' : Heap} {oc : Obj} {t' : Nat} (I : Inv X pins σ H s) (hP : H P = some (.tbl ps)) (more : ∃ m, ps' = ps ++ m) (k : ∀ b o, b ≠ P → s.heap.get? b = some o → h'.get? b = some o)
    (hm : h'.get? P = some { cls := .none, data := .fields ps' }) (hc : s.heap.objs.size ≤ c') (hp : s.heap.objs.size ≤ P') (ne : c' ≠ P') (oc' : h'.get? c' = some oc) (cd : PySem.W.CodeHd h' c' P') (op : h'.get? P' = some { cls := .none, data := .fields #[] }) :
    Inv X pins σ (upd (upd (upd H P (.tbl ps')) c' (codeO oc c' P')) P' (.tbl #[])) { s with heap := h', toks := t' } := by
  have lP : P < s.heap.objs.size := I.hok.lt hP
  have hnc : H c' = none := I.hok.fresh hc
  have hnp : H P' = none := I.hok.fresh hp
  have at_ : ∀ b, b ≠ P → b ≠ c' → b ≠ P' → upd (upd (upd H P (.tbl ps')) c' (codeO oc c' P')) P' (.tbl #[]) b = H b := fun b h1 h2 h3 => by rw [upd_ne h3, upd_ne h2, upd_ne h1]
  have atP : upd (upd (upd H P (.tbl ps')) c' (codeO oc c' P')) P' (.tbl #[]) P = some (.tbl ps') := by rw [upd_ne (ne_lt lP hp), upd_ne (ne_lt lP hc), upd_same]
  have keepH : ∀ b u, b ≠ P → H b = some u → upd (upd (upd H P (.tbl ps')) c' (codeO oc c' P')) P' (.tbl #[]) b = some u := fun b u n e => by rw [at_ b n (ne_of_none e hnc) (ne_of_none e hnp)]; exact e
  have nP : ∀ b u, H b = some u → (∀ q, u ≠ .tbl q) → b ≠ P := fun b u e q z => by
    rw [z, hP] at e
    exact q ps (Option.some.inj e).symm
  have nN : ∀ b, H b = none → b ≠ P := fun b e z => by
    rw [z, hP] at e
    cases e
  refine I.step (g' := s.gens) (d' := s.drawn) (ch := []) (fun b hb => absurd hb (by simp)) (fun b o _ _ _ e n => k b o (nN b n) e) (fun b o _ _ _ e n => ⟨o.slots, k b o (nN b n) e⟩)
    (fun b o _ e n => by
      have := Heap.lt_size e
      rw [at_ b (nN b n) (ne_lt this hc) (ne_lt this hp)]
      exact n) (fun b o _ e => ?_) (fun b xs e => keepH b _ (nP b _ e (fun q z => by cases z)) e) (fun b o u e => keepH b _ (nP b _ e (fun q z => by cases z)) e) (fun b qs e => ?_) (fun m hn => ?_) (fun b u e => ?_) I.bare
  · by_cases hb : b = P
    · rw [hb]
      exact ⟨_, hm⟩
    · exact ⟨o, k b o hb e⟩
  · by_cases hb : b = P
    · rw [hb, hP] at e
      cases e
      rw [hb, atP]
      obtain ⟨m, rfl⟩ := more
      exact ⟨m, rfl⟩
    · rw [keepH b _ hb e]
      exact ⟨#[], by simp⟩
  · obtain ⟨ob, es, ep, ho, r⟩ := hn
    exact ⟨ob, es, ep, k _ ob (nN _ I.free) ho, r⟩
  · by_cases h3 : b = P'
    · rw [h3, upd_same] at e
      cases e
      rw [h3]
      exact op
    · rw [upd_ne h3] at e
      by_cases h2 : b = c'
      · rw [h2, upd_same] at e
        cases e
        rw [h2]
        exact codeO_ok oc' cd
      · rw [upd_ne h2] at e
        by_cases hb2 : b = P
        · rw [hb2, upd_same] at e
          cases e
          rw [hb2]
          exact hm
        · rw [upd_ne hb2] at e
          refine (I.hok b u e).stay (fun d v hd q => k d v ?_ q) (fun d q => keepH d _ (nP d _ q (fun q z => by cases z)) q) fun d xs q => keepH d _ (nP d _ q (fun q z => by cases z)) q
          rcases hd with z | z
          · rw [z]
            exact hb2
          · exact nP d _ z (fun q z => by cases z)
theorem gx_make {cdk : Hp → Prop} (hr : Room (k + 1) X.A) (hc : X.calm = true) (hN : X.N.Nodup) (TB : ∃ P0, X.base.BuiltinsAt X.mg P0) (hcd : ∀ (pins : List (Addr × Obj)) (σ : L2.St) (H : Hp) (s : Shared), Inv X pins σ H s → cdk H → PySem.W.CodeHd s.heap c P) (hcode : X.env.code = .ref c) (hi : PI X tg iter wi) (ok : BlkOk X.N X.env.scope scope own) (hcell : ∀ y ∈ scope.names, y.2 ≠ .cell) (hco : scope.isCoroutine = false) (hdot : scope.names.lookup (".0" : Str) = some NameKind.local) (hdN : (".0" : Str) ∉ X.N)
    {tt : Value → TT} {te : Value → TE} (hg : ∀ (A' : Around) (s : Shared) (H : Hp) (cl : List (Str × Addr)) (C : Addr) (code : Value) (fp : List Addr) (pn : List (Addr × Obj)), Room k A' → PG (gxX X A' s H (gxE X scope cl C code) fp pn) tg g)
    (ht : ∀ (A' : Around) (s : Shared) (H : Hp) (cl : List (Str × Addr)) (C : Addr) (code : Value) (fp : List Addr) (pn : List (Addr × Obj)), Room k A' → PTs (gxX X A' s H (gxE X scope cl C code) fp pn) ifs (tt code))
    (he : ∀ (A' : Around) (s : Shared) (H : Hp) (cl : List (Str × Addr)) (C : Addr) (code : Value) (fp : List Addr) (pn : List (Addr × Obj)), Room k A' → PE (gxX X A' s H (gxE X scope cl C code) fp pn) elt (te code))
    (hs : ∀ v, genFold iter X.env v = pure v) (I : Inv X pins σ H s) (h : tGx P cdk isAll wi g tt te (own.map (·.2)) σ H Q) (hQ : ∀ a s5, GxReady X pins σ isAll Q a s5 → Q' (.ref a) s5) :
    wpAny (model X.prog X.w) X.A (eval (.GeneratorExp elt [⟨tg, iter, ifs, 0⟩] scope gpos) X.env) Q' X.xe s := by
  refine wpAny_GeneratorExp_make hco (closure_ok (all_caught I ok)) hcell hdot ok.kind (by have := hr.dp; omega) ?_ hs
  refine thn (hi.run pins s σ H _ I h) fun xv s1 hx => thn hx fun itv s2 h2 => ?_
  obtain ⟨it, fp, tn, J, H2, e, I2, T, st2, f2, ⟨htb, hcdk⟩, q⟩ := h2
  subst e
  refine ⟨I2.nolimit, ?_⟩
  obtain ⟨ps, hP, htr⟩ := htb.tab
  have hPs : s2.heap.get? P = some { cls := .none, data := .fields ps } := I2.hok P _ hP
  have cd : PySem.W.CodeHd s2.heap c P := hcd _ _ _ _ I2 hcdk
  have nP : ∀ b ∈ fp, b ≠ P := fun b hb z => by
    have := (f2 b hb).1
    rw [z, hP] at this
    cases this
  have cont : ∀ (code : Value) (h3 : Heap) (tk : Nat) (H4 : Hp), Heap.ExtBut P s2.heap h3 → Inv X pins σ H4 { s2 with heap := h3, toks := tk } → Grown P H2 H4 code → (∀ b o, s2.heap.get? b = some o → H2 b = none → H4 b = none) →
      wpAny (model X.prog X.w) X.A (builtinsFor X.env.globals X.env.builtins) (fun bi s₄ =>
        ∀ h', h'.Ns s₄.heap.objs.size (fun y => if y = ".0" then some (.ref it) else none) → Heap.SameBut s₄.heap.objs.size (s₄.heap.push { cls := .type "frame", data := .dict #[] }) h' →
          Q' (.ref h'.objs.size) { s₄ with
            gens := s₄.gens.push (.fresh (.compStart (.GeneratorExp elt [⟨tg, iter, ifs, 0⟩] scope gpos) 0 (.ref it) .none (genEnv scope (cloFrom X.env.cells scope.names []) s₄.heap.objs.size code bi X.env))),
            toks := s₄.toks + 1 + 1 + 1,
            heap := h'.push { cls := .type "generator", data := .fields #[.int s₄.gens.size 0, .str "<genexpr>" (s₄.toks + 1), .str (X.env.qual ++ "<genexpr>") (s₄.toks + 1 + 1)] } }) X.xe { s2 with heap := h3, toks := tk } := by
    intro code h3 tk H4 hx I3 grown fr4
    obtain ⟨P0, bAt, bOb, e1, e2, e2b, _, e5, e6, e7, e8⟩ := TB
    have glob := I2.ok.mod.glob.keeps I2.bk
    have gP : mainGlobals ≠ P := fun z => by
      obtain ⟨og, eg, epg, hg1, hg2, hg3, _⟩ := glob
      rw [z, hPs] at hg1
      cases hg1
      first | cases hg2 | cases hg3
    have e4 : bAt ≠ P := fun z => by
      have := I2.bk _ _ e5
      rw [z, hPs] at this
      cases this
      cases e8
    refine wpAny_builtinsFor (m := X.mg) (by rw [I2.ok.glob]; exact glob.extBut hx gP) e1 e2 (hx _ _ e4 (I2.bk _ _ e5)) e6 e7 e8 ?_
    obtain ⟨W, ⟨m0, w0⟩, turn⟩ := q code H4 grown
    have n4 : ∀ b ∈ fp, H4 b = none := fun b hb => by
      obtain ⟨o, e, _⟩ := T.obj _ _ st2 b hb
      exact fr4 b o e (f2 b hb).1
    have st3 : tn 0 h3 := T.keep _ _ _ st2 fun b hb o e => hx b o (nP b hb) e
    generalize hs4 : ({ s2 with heap := h3, toks := tk } : Shared) = s4
    have I4 : Inv X pins σ H4 s4 := by
      rw [← hs4]
      exact I3
    have st4 : tn 0 s4.heap := by
      rw [← hs4]
      exact st3
    intro h' hn' hs'
    have hsz : h'.objs.size = s4.heap.objs.size + 1 := by rw [hs'.1, Heap.size_push]
    have f4 : ∀ b ∈ fp, FpOk X pins H4 b ∧ b < s4.heap.objs.size := fun b hb => by
      refine ⟨⟨n4 b hb, (f2 b hb).2⟩, ?_⟩
      obtain ⟨o, e, _⟩ := T.obj _ _ st4 b hb
      exact Heap.lt_size e
    have kp : ∀ (gobj : Obj) b o, s4.heap.get? b = some o → (h'.push gobj).get? b = some o := fun gobj b o e => Heap.get?_push_of_some _ (hs'.extBut b o (Nat.ne_of_lt (Heap.lt_size e)) (Heap.get?_push_of_some _ e))
    have hh : X.A.handled = none := hr.hd
    have hA' : Room k ((X.A.in1.in1).over (.compLoop (.GeneratorExp elt [⟨tg, iter, ifs, 0⟩] scope gpos) 0 (.ref it) .none (gxE X scope (cloFrom X.env.cells scope.names []) s4.heap.objs.size code)) []) := by
      have d1 : ((X.A.in1.in1).over (.compLoop (.GeneratorExp elt [⟨tg, iter, ifs, 0⟩] scope gpos) 0 (.ref it) .none (gxE X scope (cloFrom X.env.cells scope.names []) s4.heap.objs.size code)) []).depth ≤ X.A.depth + 1 := Nat.le_of_eq rfl
      have u1 : ((X.A.in1.in1).over (.compLoop (.GeneratorExp elt [⟨tg, iter, ifs, 0⟩] scope gpos) 0 (.ref it) .none (gxE X scope (cloFrom X.env.cells scope.names []) s4.heap.objs.size code)) []).units ≤ X.A.units + 5 := Nat.le_of_eq rfl
      refine ⟨hh, ?_, ?_⟩
      · have := hr.dp
        omega
      · have := hr.un
        omega
    have hfrm : ((X.A.in1.in1).over (.compLoop (.GeneratorExp elt [⟨tg, iter, ifs, 0⟩] scope gpos) 0 (.ref it) .none (gxE X scope (cloFrom X.env.cells scope.names []) s4.heap.objs.size code)) []).frames = some (gxE X scope (cloFrom X.env.cells scope.names []) s4.heap.objs.size code :: X.stack) := by
      show pushEnvs [gxE X scope (cloFrom X.env.cells scope.names []) s4.heap.objs.size code] X.A.frames = _
      rw [I4.ok.frames]
      rfl
    generalize hgo : ({ cls := .type "generator", data := .fields #[.int s4.gens.size 0, .str "<genexpr>" (s4.toks + 1), .str (X.env.qual ++ "<genexpr>") (s4.toks + 1 + 1)] } : Obj) = gobj
    have I5 := gx_start (it := .ref it) (gobj := gobj) (tk := s4.toks + 1 + 1 + 1) (code := code) (gens' := s4.gens.push (.fresh (.compStart (.GeneratorExp elt [⟨tg, iter, ifs, 0⟩] scope gpos) 0 (.ref it) .none (genEnv scope (cloFrom X.env.cells scope.names []) s4.heap.objs.size code builtinsNs X.env)))) I4 ok hN hcell f4 hA'.hd hfrm (by rw [← hgo]; intro v z; cases z) (by rw [← hgo]; rfl) hn' hs' hdN (I4.bare.push rfl)
    generalize hA2 : ((X.A.in1.in1).over (.compLoop (.GeneratorExp elt [⟨tg, iter, ifs, 0⟩] scope gpos) 0 (.ref it) .none (gxE X scope (cloFrom X.env.cells scope.names []) s4.heap.objs.size code)) []) = A2 at I5 hA' hfrm
    have isg : ∀ {h5 : Heap}, h5.get? h'.objs.size = some gobj → h5.IsGen h'.objs.size s4.gens.size := fun {h5} e => by
      rw [← hgo] at e
      exact ⟨_, _, _, e, rfl, rfl, rfl⟩
    refine hQ _ _ ⟨A2, s4, H4, gxE X scope (cloFrom X.env.cells scope.names []) s4.heap.objs.size code, fp, [(h'.objs.size, gobj)], s4.gens.size, m0 + 1, isg (Heap.get?_push_size _ (by rw [← hgo]; rfl)), I5.nolimit, ⟨_, Array.getElem?_push_size .., rfl, ?_⟩, fun pl σ' H' s' I' => ?_, fun cb pl σ' H' s' h5 gens' I' qf hb hk => ?_⟩
    · have I6 : Inv (gxX X A2 s4 H4 (gxE X scope (cloFrom X.env.cells scope.names []) s4.heap.objs.size code) fp [(h'.objs.size, gobj)]) [] (wipe σ (own.map (·.2))) H4 (Shared.setGen { s4 with gens := s4.gens.push (.fresh (.compStart (.GeneratorExp elt [⟨tg, iter, ifs, 0⟩] scope gpos) 0 (.ref it) .none (genEnv scope (cloFrom X.env.cells scope.names []) s4.heap.objs.size code builtinsNs X.env))), toks := s4.toks + 1 + 1 + 1, heap := h'.push gobj } s4.gens.size .running) :=
        inv_gens I5 rfl rfl (allBare_setGen I5.bare rfl)
      have loop := gx_loop (Y := gxX X A2 s4 H4 (gxE X scope (cloFrom X.env.cells scope.names []) s4.heap.objs.size code) fp [(h'.objs.size, gobj)]) (B := X.A.in1.in1) (σ := σ) (vs := own.map (·.2)) hc hA2.symm rfl rfl hco
        (fun p hp z => by
          rw [List.mem_singleton.mp hp] at z
          have h1 := (f4 _ z).2
          rw [hsz] at h1
          exact absurd h1 (Nat.not_lt.mpr (Nat.le_succ _))) T (hg A2 s4 H4 _ _ code fp _ hA') (ht A2 s4 H4 _ _ code fp _ hA') (he A2 s4 H4 _ _ code fp _ hA') turn m0 (m0 + 1) 0 H4
      have st6 : tn 0 (h'.push gobj) := T.keep _ _ _ st4 fun b hb o e => kp gobj b o e
      show Seg _ _ _ _ _ _ _ ((compStart (.GeneratorExp elt [⟨tg, iter, ifs, 0⟩] scope gpos) 0 (.ref it) .none (gxE X scope (cloFrom X.env.cells scope.names []) s4.heap.objs.size code)).onRaise (leaving (gxE X scope (cloFrom X.env.cells scope.names []) s4.heap.objs.size code))) [] _
      have loop2 := fun s₀ => loop s₀ _ (Nat.lt_succ_self _) I6 st6 n4 w0
      unfold compStart
      rw [Sem.onRaise_eq_wrap]
      show Seg _ _ _ _ _ _ _ ((ask >>= _).wrap _ _ _ _) [] _
      refine seg_bind_wrap (wpAny_askSetting ?_)
      split
      · exact seg_again rfl (loop2 _)
      · first
          | exact seg_bind_wrap (wpAny_rule (seg_bind_wrap (wpAny_standAt (seg_bind_wrap (T.self _ 0 _ _ _ st6 (seg_again rfl (loop2 _)))))))
          | (refine seg_bind_wrap (wpAny_rule ?_); show Seg _ _ _ _ _ _ _ ((standAt iter.pos >>= _).wrap _ _ _ _) [] _; exact seg_bind_wrap (wpAny_standAt (seg_bind_wrap (T.self _ 0 _ _ _ st6 (seg_again rfl (loop2 _))))))
    · exact isg (I'.pin (h'.objs.size, gobj) (List.mem_append_left _ (List.mem_singleton.mpr rfl))).1
    · have I7 : Inv X pins σ H' { s' with gens := gens' } := I4.call' (ch := fp) (s' := { s' with gens := gens' }) I'.os I'.base I'.hok hb fun b hb => ⟨(f4 b hb).1.2.2.2.1, (f4 b hb).1.2.1, (f4 b hb).1.2.2.2.2.1, (f4 b hb).1.2.2.2.2.2⟩
      exact ⟨.bl cb, H', I7.kept (t' := s'.toks) hk, rfl, qf⟩
  cases known : codeAmong gpos ps.toList with
  | none =>
    refine wpAny_genexprCodeX hcode (cd.code hPs htr) (cd.tab hPs) known fun c' h' tk hx hge hlt hco' _ htab' hnew => ?_
    obtain ⟨P', hP', hcode', htab2⟩ := hnew
    have cdn := PySem.W.CodeHd.of hcode' htab2
    obtain ⟨o1, v1, f1, tf1, fl1, tg1, in1, tx1, tt1, oc1, _, _, _, _, _, _, _, _, ne⟩ := id cdn
    have lP : P < s2.heap.objs.size := Heap.lt_size hPs
    refine cont _ h' tk _ hx (inv_code I2 hP ⟨_, rfl⟩ (fun b o hb e => hx b o hb e) htab'.2 hge hP' ne oc1 cdn htab2.2) ⟨fun a u n e => ?_, fun Q z => ?_, c', P', o1, rfl, ?_, ?_⟩ fun b o e n => ?_
    · rw [upd_ne (ne_of_none e (I2.hok.fresh hP')), upd_ne (ne_of_none e (I2.hok.fresh hge)), upd_ne n]
      exact e
    · refine TblOk.grow (c' := c') (ob := o1) (x := gpos.line) (y := gpos.col) hP htr (fun a u n e => ?_) ?_ ?_ upd_same z
      · rw [upd_ne (ne_of_none e (I2.hok.fresh hP')), upd_ne (ne_of_none e (I2.hok.fresh hge)), upd_ne n]
        exact e
      · rw [upd_ne (ne_lt lP hP'), upd_ne (ne_lt lP hge), upd_same]
      · rw [upd_ne ne, upd_same]
    · rw [upd_ne ne, upd_same]
    · exact TblOk.empty upd_same
    · have l := Heap.lt_size e
      have nP2 : b ≠ P := fun z => by
        rw [z, hP] at n
        cases n
      rw [upd_ne (ne_lt l hP'), upd_ne (ne_lt l hge), upd_ne nP2]
      exact n
  | some cv =>
    refine wpAny_genexprCode_hit hcode (cd.code hPs htr) known ?_
    have gr : Grown P H2 H2 cv := by
      cases htb with
      | mk _ ps2 cf pf h t n r =>
        rw [hP] at h
        cases h
        obtain ⟨h1, o, h2⟩ := n _ _ known
        exact ⟨fun a u _ e => e, fun _ z => z, cf gpos, pf gpos, o, h1, h2, r _ _ known⟩
    exact cont cv s2.heap s2.toks H2 (Heap.ExtBut.refl _ _) I2 gr fun _ _ _ n => n
end
end Pyr
set_option Elab.async false
set_option autoImplicit false
set_option linter.all false
set_option maxRecDepth 100000
set_option maxHeartbeats 2000000
namespace Pyr
open PySem PySem.Spec PyProof.Rows L2 Evl
section
variable {X : Cx} {elt tg iter : Expr} {ifs : List Expr} {scope : Scope} {own : List (Str × Nat)} {gpos : Pos} {wi : TI} {g : TG} {tt : Value → TT} {te : Value → TE} {c P : Addr} {k : Nat} {cdk : Hp → Prop}
theorem pe_gx_all {p pos : Pos} (hr : Room (k + 1) X.A) (hc : X.calm = true) (hN : X.N.Nodup) (hgl : Gl X "all") (hm : X.mg "all" = none) (TB : ∃ P0, X.base.BuiltinsAt X.mg P0) (hcd : ∀ (pins : List (Addr × Obj)) (σ : L2.St) (H : Hp) (s : Shared), Inv X pins σ H s → cdk H → PySem.W.CodeHd s.heap c P) (hcode : X.env.code = .ref c) (hi : PI X tg iter wi) (ok : BlkOk X.N X.env.scope scope own) (hcell : ∀ y ∈ scope.names, y.2 ≠ .cell) (hco : scope.isCoroutine = false) (hdot : scope.names.lookup (".0" : Str) = some NameKind.local) (hdN : (".0" : Str) ∉ X.N)
    (hg : ∀ (A' : Around) (s : Shared) (H : Hp) (cl : List (Str × Addr)) (C : Addr) (code : Value) (fp : List Addr) (pn : List (Addr × Obj)), Room k A' → PG (gxX X A' s H (gxE X scope cl C code) fp pn) tg g)
    (ht : ∀ (A' : Around) (s : Shared) (H : Hp) (cl : List (Str × Addr)) (C : Addr) (code : Value) (fp : List Addr) (pn : List (Addr × Obj)), Room k A' → PTs (gxX X A' s H (gxE X scope cl C code) fp pn) ifs (tt code))
    (he : ∀ (A' : Around) (s : Shared) (H : Hp) (cl : List (Str × Addr)) (C : Addr) (code : Value) (fp : List Addr) (pn : List (Addr × Obj)), Room k A' → PE (gxX X A' s H (gxE X scope cl C code) fp pn) elt (te code))
    (hs : ∀ v, genFold iter X.env v = pure v)
    (hst : starEach [.GeneratorExp elt [⟨tg, iter, ifs, 0⟩] scope gpos] X.env = (false, eval (.GeneratorExp elt [⟨tg, iter, ifs, 0⟩] scope gpos) X.env) :: starEach [] X.env := by rfl) :
    PE X (.Call (.Name "all" p) [.GeneratorExp elt [⟨tg, iter, ifs, 0⟩] scope gpos] [] pos) (tGx P cdk true wi g tt te (own.map (·.2))) := by
  refine ⟨fun pins s σ H Q I h => ?_⟩
  refine wpAny_Call_Name_kw (ld_blt I hgl hm boot_all ?_)
  refine PyProof.Rows.callWith_builtin1 ?_ hst (by rfl)
  rw [hst]
  show wpAny _ _ (spliced ((false, eval (.GeneratorExp elt [⟨tg, iter, ifs, 0⟩] scope gpos) X.env) :: backTo pos (starEach [] X.env))) _ _ s
  refine Calls.spliced_cons (gx_make hr hc hN TB hcd hcode hi ok hcell hco hdot hdN hg ht he hs I h fun a s5 hG => ?_)
  obtain ⟨A', s4, H4, cenv, fp, pn, gi, n, hg1, hl, hgo, hY, hR⟩ := hG
  refine Calls.spliced_nil ?_
  refine call_function_tree F.kind_all F.plain_all F.entry_all (F.args_all1 _) ?_
  unfold Builtin.«all»
  refine wpAny_bind (m := oneArg "all" _) (wpAny_pure ?_)
  refine wpAny_bind (wpAny_pyIter_gen hg1 ?_)
  refine wpAny_pure ⟨plainId_quiet F.plain_all_loop _, ?_⟩
  exact gx_drain_all (Y := gxX X A' s4 H4 cenv fp pn) (A1 := X.A) (Q := Q) hr.hd (by have := hr.dp; omega) hY (fun c pl σ' H' s' h' gens' I' q hb hk => hR c pl σ' H' s' h' gens' I' q hb hk) n s5 hg1 hl hgo
end
end Pyr
set_option Elab.async false
set_option autoImplicit false
set_option linter.all false
set_option maxRecDepth 100000
set_option maxHeartbeats 2000000
namespace Pyr
open PySem PySem.Spec PyProof.Rows L2 Evl
theorem takesF {X : Cx} : Takes X (fun _ _ _ _ => False) := fun u s' x => by
  obtain ⟨_, _, _, _, _, _, _, _, _, _, _, _, _, _, _, _, w⟩ := x
  exact w.elim
def gxF (isAll : Bool) (t : Tg) (tt : En → Res Bool) (fe : En → Res D) (ρ : En) : List D → Res D
  | [] => .ok (.bool isAll)
  | d :: ds => (tgE t d ρ).bind fun ρ1 => (noX (tt ρ1)).bind fun b => if b then (noX (fe ρ1)).bind fun y => (boolD y).bind fun c => if c = isAll then gxF isAll t tt fe ρ ds else .ok (.bool c) else gxF isAll t tt fe ρ ds
def eGx (isAll : Bool) (own : List Nat) (t : Tg) (fi : En → Res (List D)) (tt : En → Res Bool) (fe : En → Res D) : En → Res D := fun ρ => (fi ρ).bind fun ds => gxF isAll t tt fe (wipeE ρ own) ds
section
variable {TS : TabList} {X : Cx} {tg iter elt : Expr} {fi : En → Res (List D)} {tt : En → Res Bool} {fe : En → Res D} {ifs : List Expr} {pos : Pos} {t : Tg} {scope : Scope} {own : List (Str × Nat)} {k : Nat}
def gxT (X : Cx) (k : Nat) (scope : Scope) (ifs : List Expr) : Value → TT := fun code σ H Q => ∀ (A' : Around) (s : Shared) (H0 : Hp) (cl : List (Str × Addr)) (C : Addr) (fp : List Addr) (pn : List (Addr × Obj)), Room k A' → wpTs (gxX X A' s H0 (gxE X scope cl C code) fp pn) ifs σ H Q
def gxEl (X : Cx) (k : Nat) (scope : Scope) (elt : Expr) : Value → TE := fun code σ H Q => ∀ (A' : Around) (s : Shared) (H0 : Hp) (cl : List (Str × Addr)) (C : Addr) (fp : List Addr) (pn : List (Addr × Obj)), Room k A' → wpE (gxX X A' s H0 (gxE X scope cl C code) fp pn) elt σ H Q
theorem gr_grown {G H H' : Hp} {P : Addr} {code : Value} (ok : Ok0 TS G H) (hP : TblOk H P) (h : Grown P H H' code) : Gr TS G H G H' := by
  obtain ⟨qs, q1, _⟩ := hP.tab
  have ex : ExT H H' := ⟨fun a o e n => h.keep a o (fun z => by
    rw [z, q1] at e
    cases e
    exact n _ rfl) e, fun a e => by
    by_cases z : a = P
    · obtain ⟨qs2, q2, _⟩ := (h.tb P hP).tab
      rw [z, q2] at e
      cases e
    · cases q : H a with
      | none => rfl
      | some u =>
        rw [h.keep a u z q] at e
        exact (nomatch e), h.tb⟩
  refine ⟨Ex.refl G, ex, fun _ h => .inl h, ⟨fun a o e => ?_, ok.tb.ext ex, ok.nt⟩⟩
  refine h.keep a o (fun z => ?_) (ok.le _ _ e)
  have e2 := ok.le _ _ e
  have e3 := ok.nt _ _ e
  rw [z, q1] at e2
  cases e2
  cases e3
section
variable {G H G' H' : Hp} {b : Bool} {c' P' : Addr}
theorem Ok0.more (ok : Ok0 TS G H) (hc : ∃ o, H c' = some (codeO o c' P')) (hp : TblOk H P') : Ok0 (TS.more b c' P') G H := by
  refine ⟨ok.le, ⟨ok.tb.all, fun p hp2 => ?_⟩, ok.nt⟩
  cases b with
  | false => exact ok.tb.cs p hp2
  | true =>
    rcases List.mem_cons.mp (show p ∈ (c', P') :: TS.cs from hp2) with rfl | h
    · exact ⟨hc, hp⟩
    · exact ok.tb.cs p h
theorem Ok0.less (ok : Ok0 (TS.more b c' P') G H) : Ok0 TS G H := by
  refine ⟨ok.le, ⟨ok.tb.all, fun p hp2 => ok.tb.cs p ?_⟩, ok.nt⟩
  cases b with
  | false => exact hp2
  | true => exact List.mem_cons_of_mem _ hp2
theorem Gr.less (g : Gr (TS.more b c' P') G H G' H') : Gr TS G H G' H' := ⟨g.g, g.h, g.nw, g.ok.less⟩
theorem Gr.up (g : Gr TS G H G' H') (ok : Ok0 (TS.more b c' P') G H) : Gr (TS.more b c' P') G H G' H' := ⟨g.g, g.h, g.nw, ⟨g.ok.le, ok.tb.ext g.h, g.ok.nt⟩⟩
theorem RpE.up {K : PySem.W.Frag} {ρ : En} {σ : L2.St} (r : RpE TS K G H ρ σ) : RpE (TS.more b c' P') K G H ρ σ := ⟨r.len, r.at', r.lo, fun i ds h => let ⟨a, h1, h2⟩ := r.st i ds h; ⟨a, h1, ⟨h2.ex⟩⟩, fun i x h => let ⟨a, h1, h2⟩ := r.ex i x h; ⟨a, h1, by
  cases h2 with
  | cls z => exact .cls z
  | fld z1 z2 z3 z4 => exact .fld z1 z2 z3 z4⟩⟩
theorem PostX.up {W : WX} {σ : L2.St} {c : Str} {fs : List (Str × D)} (p : PostX TS X W σ G H c fs) : PostX (TS.more b c' P') X W σ G H c fs := fun C d G' H' m g r => p C d G' H' m g.less r
theorem PostG.up {α β : Type} {Rel : Hp → Hp → Hp → α → β → Prop} {W : WX} {σ : L2.St} {r : Res β} {Q : α → Hp → Prop} (p : PostG Rel TS X W σ G H r Q) : PostG Rel (TS.more b c' P') X W σ G H r Q := by
  induction r with
  | ok x => exact fun v G' H' g rel => p v G' H' g.less rel
  | exc c fs => exact PostX.up p
  | bad => exact p
  | alt f ih => exact fun i => ih i (p i)
end
structure CdAt (TS : TabList) (X : Cx) (c P : Addr) : Prop where
  bm : ∃ P0, X.base.BuiltinsAt X.mg P0
  at' : (PySem.W.CodeHd X.base c P ∧ P ∈ TS) ∨ (c, P) ∈ TS.cs
theorem CdAt.tb {c P : Addr} (x : CdAt TS X c P) {H : Hp} (t : TbOk TS H) : TblOk H P ∧ (PySem.W.CodeHd X.base c P ∨ ∃ o, H c = some (codeO o c P)) := by
  rcases x.at' with ⟨h1, h2⟩ | h
  · exact ⟨t.all P h2, .inl h1⟩
  · exact ⟨(t.cs _ h).2, .inr (t.cs _ h).1⟩
theorem cd_here {c P : Addr} (pins : List (Addr × Obj)) (σ : L2.St) (H : Hp) (s : Shared) (I : Inv X pins σ H s) (h : PySem.W.CodeHd X.base c P ∨ ∃ o, H c = some (codeO o c P)) : PySem.W.CodeHd s.heap c P := by
  rcases h with h | ⟨o, h⟩
  · exact h.keeps fun b u e => I.bk b u e
  · exact (I.hok c _ h).2.1
theorem CdAt.top {c P : Addr} (TB : GxR.TabB X.base X.mg c P) (hP : P ∈ TS) : CdAt TS X c P := ⟨⟨P, TB.bm⟩, .inl ⟨TB.code, hP⟩⟩
theorem gx_core {W : WX} {ρ : En} {σ : L2.St} {G H : Hp} {Q : VK} {c P : Addr} {isAll : Bool} (b : Bool) (CA : CdAt TS X c P) (hi : DI TS X tg iter fi) (ho : ∀ i ∈ t.all, i ∈ own.map (·.2))
    (ht : ∀ (A' : Around) (s : Shared) (H : Hp) (cl : List (Str × Addr)) (C : Addr) (code : Value) (fp : List Addr) (pn : List (Addr × Obj)) (c' P' : Addr), Room k A' → code = .ref c' → DTs (TS.more b c' P') (gxX X A' s H (gxE X scope cl C code) fp pn) ifs tt)
    (he : ∀ (A' : Around) (s : Shared) (H : Hp) (cl : List (Str × Addr)) (C : Addr) (code : Value) (fp : List Addr) (pn : List (Addr × Obj)) (c' P' : Addr), Room k A' → code = .ref c' → DE (TS.more b c' P') (gxX X A' s H (gxE X scope cl C code) fp pn) elt fe)
    (tk : Takes X W) (re : RpE TS X.K G H ρ σ) (ok : Ok0 TS G H) (post : PostG (RelE X.K) TS X W σ G H (eGx isAll (own.map (·.2)) t fi tt fe ρ) Q) :
    tGx P (fun H => PySem.W.CodeHd X.base c P ∨ ∃ o, H c = some (codeO o c P)) isAll (wpIt X tg iter) (gTg X.K t) (gxT X k scope ifs) (gxEl X k scope elt) (own.map (·.2)) σ H Q := by
  refine bindP (wp := fun R => wpIt X tg iter σ H R) back_E (fun Q' p => hi W ρ σ G H Q' tk re ok p) post fun J ds G1 H1 _ g1 wk p => ?_
  refine ⟨CA.tb g1.ok.tb, fun code H1' hG => ?_⟩
  have gT := gr_grown g1.ok (CA.tb g1.ok.tb).1 hG
  obtain ⟨c', P', oc, hcode, hc1, hp1⟩ := hG.code
  have p := (PostG.shift back_E gT p).up (b := b) (c' := c') (P' := P')
  have okU : Ok0 (TS.more b c' P') G1 H1' := gT.ok.more ⟨oc, hc1⟩ hp1
  have reW : ∀ {G' H' : Hp}, Gr (TS.more b c' P') G1 H1' G' H' → RpE (TS.more b c' P') X.K G' H' (wipeE ρ (own.map (·.2))) (wipe σ (own.map (·.2))) := fun e => ((((re.mono g1).mono gT).up).mono e).wipe _
  generalize hρ : wipeE ρ (own.map (·.2)) = ρ0 at p reW
  refine ⟨fun i m H => m = ds.length - i ∧ i ≤ ds.length ∧ ∃ Gi, Gr (TS.more b c' P') G1 H1' Gi H ∧ PostG (RelE X.K) (TS.more b c' P') X W σ G1 H1' (gxF isAll t tt fe ρ0 (ds.drop i)) Q,
    ⟨ds.length, by simp, Nat.zero_le _, G1, Gr.refl okU, by rw [List.drop_zero]; exact p⟩, ?_⟩
  rintro i m H2 ⟨rfl, hi2, Gi, gi, hr⟩
  obtain ⟨w1, w2⟩ := wk Gi H2 gi.g gi.ok.less
  by_cases hlt : i < ds.length
  · have hx : ds[i]? = some ds[i] := List.getElem?_eq_getElem hlt
    have hd : ds.drop i = ds[i] :: ds.drop (i + 1) := List.drop_eq_getElem_cons hlt
    rw [hd] at hr
    obtain ⟨h1, h2⟩ := w1 i _ hx
    refine .inr ⟨h1, fun H' => ∃ Gi, Gr (TS.more b c' P') G1 H1' Gi H' ∧ PostG (RelE X.K) (TS.more b c' P') X W σ G1 H1' (gxF isAll t tt fe ρ0 (ds.drop (i + 1))) Q, fun H' h => ⟨ds.length - (i + 1), by omega, rfl, hlt, h⟩, fun v H' y => ?_⟩
    obtain ⟨G', g, r⟩ := h2 v H' y
    have g := g.up gi.ok
    have hr : PostG (RelE X.K) (TS.more b c' P') X W σ G1 H1' ((tgE t ds[i] ρ0).bind fun ρ1 => (noX (tt ρ1)).bind fun b => if b then (noX (fe ρ1)).bind fun y => (boolD y).bind fun c => if c = isAll then gxF isAll t tt fe ρ0 (ds.drop (i + 1)) else .ok (.bool c) else gxF isAll t tt fe ρ0 (ds.drop (i + 1))) Q := hr
    revert hr
    refine tgE_ok (fun z => PostG (RelE X.K) (TS.more b c' P') X W σ G1 H1' (z.bind _) Q → _) (fun ρ1 e1 hr => ?_) fun hr => hr.elim
    refine gTg_ok g.ok ho r (reW (gi.trans g)) e1 fun σ2 re2 hw => ?_
    rw [wipe_wipe] at hw
    refine ⟨hw, fun A' s' H0' cl' C' fp' pn' hroom => ?_⟩
    refine ht A' s' H0' cl' C' code fp' pn' c' P' hroom hcode (fun _ _ _ _ => False) ρ1 σ2 G' H' _ takesF re2 g.ok (noXP hr fun b' b0 G3 H3 g3 eb hr => ?_)
    subst eb
    cases b' with
    | false => exact iteF ⟨G3, (gi.trans g).trans g3, hr⟩
    | true =>
      refine iteT fun A' s' H0' cl' C' fp' pn' hroom => ?_
      refine he A' s' H0' cl' C' code fp' pn' c' P' hroom hcode (fun _ _ _ _ => False) ρ1 σ2 G3 H3 _ takesF (re2.mono g3) g3.ok (noXP hr fun yv yd G4 H4 g4 ry hr => ?_)
      cases ry with
      | bl cb =>
        have hr : PostG (RelE X.K) (TS.more b c' P') X W σ G1 H1' (if cb = isAll then gxF isAll t tt fe ρ0 (ds.drop (i + 1)) else .ok (.bool cb)) Q := hr
        refine ⟨cb, rfl, ?_⟩
        have gg := ((gi.trans g).trans g3).trans g4
        by_cases hc : cb = isAll
        · rw [if_pos hc] at hr ⊢
          exact ⟨G4, gg, hr⟩
        · rw [if_neg hc] at hr ⊢
          exact hr _ G4 H4 gg (.bl cb)
      | _ => exact hr.elim
  · have e : i = ds.length := by omega
    subst e
    rw [List.drop_length] at hr
    exact .inl ⟨w2, hr _ Gi H2 gi (.bl isAll)⟩
theorem de_gxB_all {p gpos : Pos} {c P : Addr} (b : Bool) (C : CtE X) (hr : Room (k + 1) X.A) (hgl : Gl X "all") (hm : X.mg "all" = none) (CA : CdAt TS X c P) (hcode : X.env.code = .ref c) (hi : DI TS X tg iter fi) (ok : BlkOk X.N X.env.scope scope own) (ho : ∀ i ∈ t.all, i ∈ own.map (·.2)) (hcell : ∀ y ∈ scope.names, y.2 ≠ .cell) (hco : scope.isCoroutine = false) (hdot : scope.names.lookup (".0" : Str) = some NameKind.local) (hdN : (".0" : Str) ∉ X.N)
    (hg : ∀ (A' : Around) (s : Shared) (H : Hp) (cl : List (Str × Addr)) (C : Addr) (code : Value) (fp : List Addr) (pn : List (Addr × Obj)), Room k A' → PG (gxX X A' s H (gxE X scope cl C code) fp pn) tg (gTg X.K t))
    (ht : ∀ (A' : Around) (s : Shared) (H : Hp) (cl : List (Str × Addr)) (C : Addr) (code : Value) (fp : List Addr) (pn : List (Addr × Obj)) (c' P' : Addr), Room k A' → code = .ref c' → DTs (TS.more b c' P') (gxX X A' s H (gxE X scope cl C code) fp pn) ifs tt)
    (he : ∀ (A' : Around) (s : Shared) (H : Hp) (cl : List (Str × Addr)) (C : Addr) (code : Value) (fp : List Addr) (pn : List (Addr × Obj)) (c' P' : Addr), Room k A' → code = .ref c' → DE (TS.more b c' P') (gxX X A' s H (gxE X scope cl C code) fp pn) elt fe)
    (hs : ∀ v, genFold iter X.env v = pure v := by intro _; rfl)
    (hst : starEach [.GeneratorExp elt [⟨tg, iter, ifs, 0⟩] scope gpos] X.env = (false, eval (.GeneratorExp elt [⟨tg, iter, ifs, 0⟩] scope gpos) X.env) :: starEach [] X.env := by rfl) :
    DE TS X (.Call (.Name "all" p) [.GeneratorExp elt [⟨tg, iter, ifs, 0⟩] scope gpos] [] pos) (eGx true (own.map (·.2)) t fi tt fe) := by
  refine ⟨?_⟩
  intro W ρ σ G H Q tk re k0 post
  exact wpE_of (pe_gx_all hr C.calm C.nd hgl hm CA.bm cd_here hcode (pi_wp X tg iter) ok hcell hco hdot hdN hg (fun A' s H cl C code fp pn hroom => ⟨fun pins s1 σ H1 Q I h => h A' s H cl C fp pn hroom pins s1 I⟩) (fun A' s H cl C code fp pn hroom => ⟨fun pins s1 σ H1 Q I h => h A' s H cl C fp pn hroom pins s1 I⟩) hs hst) (gx_core (elt := elt) b CA hi ho ht he tk re k0 post)
theorem de_gx_all {p gpos : Pos} {c P : Addr} (C : CtE X) (hr : Room (k + 1) X.A) (hgl : Gl X "all") (hm : X.mg "all" = none) (TB : GxR.TabB X.base X.mg c P) (hP : P ∈ TS) (hcode : X.env.code = .ref c) (hi : DI TS X tg iter fi) (ok : BlkOk X.N X.env.scope scope own) (ho : ∀ i ∈ t.all, i ∈ own.map (·.2)) (hcell : ∀ y ∈ scope.names, y.2 ≠ .cell) (hco : scope.isCoroutine = false) (hdot : scope.names.lookup (".0" : Str) = some NameKind.local) (hdN : (".0" : Str) ∉ X.N)
    (hg : ∀ (A' : Around) (s : Shared) (H : Hp) (cl : List (Str × Addr)) (C : Addr) (code : Value) (fp : List Addr) (pn : List (Addr × Obj)), Room k A' → PG (gxX X A' s H (gxE X scope cl C code) fp pn) tg (gTg X.K t))
    (ht : ∀ (A' : Around) (s : Shared) (H : Hp) (cl : List (Str × Addr)) (C : Addr) (code : Value) (fp : List Addr) (pn : List (Addr × Obj)), Room k A' → DTs TS (gxX X A' s H (gxE X scope cl C code) fp pn) ifs tt)
    (he : ∀ (A' : Around) (s : Shared) (H : Hp) (cl : List (Str × Addr)) (C : Addr) (code : Value) (fp : List Addr) (pn : List (Addr × Obj)), Room k A' → DE TS (gxX X A' s H (gxE X scope cl C code) fp pn) elt fe)
    (hs : ∀ v, genFold iter X.env v = pure v := by intro _; rfl)
    (hst : starEach [.GeneratorExp elt [⟨tg, iter, ifs, 0⟩] scope gpos] X.env = (false, eval (.GeneratorExp elt [⟨tg, iter, ifs, 0⟩] scope gpos) X.env) :: starEach [] X.env := by rfl) :
    DE TS X (.Call (.Name "all" p) [.GeneratorExp elt [⟨tg, iter, ifs, 0⟩] scope gpos] [] pos) (eGx true (own.map (·.2)) t fi tt fe) :=
  de_gxB_all false C hr hgl hm (CdAt.top TB hP) hcode hi ok ho hcell hco hdot hdN hg (fun A' s H cl C code fp pn c' P' hroom _ => ht A' s H cl C code fp pn hroom) (fun A' s H cl C code fp pn c' P' hroom _ => he A' s H cl C code fp pn hroom) hs hst
end
end Pyr
set_option Elab.async false
set_option autoImplicit false
set_option linter.all false
set_option maxRecDepth 100000
set_option maxHeartbeats 2000000
namespace Pyr
open PySem PySem.Spec PyProof.Rows L2 Evl
structure FunC (K : PySem.W.Frag) (x : Str) (st : Stmt) (f : Addr) (fd : FuncData) (cdv : Value) : Prop where
  ex : ∃ (oc : Value) (od : Option Addr) (kV doc pm : Value) (an : Option Addr) (ct : Value) (osl : Array (Option Value)),
    fd = PySem.W.fnOf x x (defArgs st) (defBody st) (defScope st) .none kV doc pm an cdv ct ∧ K.lookup f = some ⟨oc, od, .func fd, osl⟩ ∧ PySem.W.codeIn K cdv x = true
  kp : PySem.W.keepIn K (.ref f) = true
def DfnC (K : PySem.W.Frag) (mg : Str → Option Value) (x : Str) (st : Stmt) (ps : List Str) (cdv : Value) : Prop := ∃ f fd, FunC K x st f fd cdv ∧ mg x = some (.ref f) ∧ Binds K fd ps []
def DefInC (K : PySem.W.Frag) (x : Str) (st : Stmt) (cdv : Value) : Prop := ∃ (f : Addr) (oc : Value) (od an : Option Addr) (sl : Array (Option Value)) (kV doc pm ct : Value),
  PySem.W.nsIn K mainGlobals x = some (some (.ref f)) ∧ K.lookup f = some ⟨oc, od, .func (PySem.W.fnOf x x (defArgs st) (defBody st) (defScope st) .none kV doc pm an cdv ct), sl⟩ ∧ PySem.W.codeIn K cdv x = true ∧ PySem.W.keepIn K (.ref f) = true
theorem DefInC.dfn {K : PySem.W.Frag} {mg : Str → Option Value} {h : Heap} {x : Str} {st : Stmt} {ps : List Str} {cdv : Value} (d : DefInC K x st cdv) (X : K.In h) (G : h.Ns mainGlobals mg) (b : BindOk x st ps) : DfnC K mg x st ps cdv := by
  obtain ⟨f, oc, od, an, sl, kV, doc, pm, ct, h1, h2, h3, h4⟩ := d
  exact ⟨f, _, ⟨⟨oc, od, kV, doc, pm, an, ct, sl, rfl, h2, h3⟩, h4⟩, PySem.W.mg_of X G h1, (fun_mk h2 h3 h4).binds b⟩
theorem fnok_mkC {TS : TabList} {P : Program} {w : World} {K : PySem.W.Frag} {mg : Str → Option Value} {base : Heap} {x : Str} {st : Stmt} {f : Addr} {fd : FuncData} {cdv : Value} {N ps : List Str} {k : Nat} {F : Frm → Res Fl} (Fn : FunC K x st f fd cdv) (S : FnScope N ps (defScope st))
    (body : ∀ (A : Around) (outer : List Env) (s : Shared) (H : Hp) (E : XK), Room k (A.deeper (envOfC x (defScope st) s.heap.objs.size f cdv)) → DSs TS (cxOf (L2N.CX P w) P w K mg base N x (defScope st) f cdv A outer s H E) (defBody st) F) :
    FnOk P w K mg base (L2N.CX P w) (k + 1) f fd ps (spD TS K mg (defM ps.length N.length F)) := by
  obtain ⟨⟨oc, od, kV, doc, pm, an, ct, osl, rfl, lk, hcd⟩, _⟩ := Fn
  refine fn_of lk hcd S (fun vs H Q E h => ?_) (fun A outer s H vs Q E hr h => ?_)
  · obtain ⟨G, ds, r, ok, p⟩ := h
    unfold defM at p
    split at p
    · rename_i e
      rw [r.len, e]
    · exact p.elim
  · obtain ⟨G, ds, r, ok, p⟩ := h
    unfold defM at p
    split at p
    · refine ⟨_, pss_wp _ _, body A outer s H E hr (fun cls d _ H => E cls d H) (frm0 N.length ds) (L2.start N vs) G H G H (fun _ => []) _ (takes_of rfl rfl rfl rfl) (SI.start ok r) ?_⟩
      revert p
      generalize F (frm0 N.length ds) = r_
      intro p
      induction r_ with
      | ok fl =>
        cases fl with
        | next ρ => exact fun σ' G' H' fp' _ s' => p .non G' H' s'.gr .non
        | ret rv =>
          cases rv with
          | val d => exact p
          | own ds => exact p
          | ownU dss => exact p
          | ownM xs d ys => exact p
        | brk ρ => exact p.elim
        | cont ρ => exact p.elim
      | exc c fs =>
        exact fun C d _ G' H' m g r => p C d G' H' m g r
      | bad =>
        exact p.elim
      | alt f_ ih => exact fun i => ih i (p i)
    · exact p.elim
theorem known_ofC {TS : TabList} {P : Program} {w : World} {K : PySem.W.Frag} {mg : Str → Option Value} {base : Heap} {x : Str} {st : Stmt} {cdv : Value} {N ps : List Str} {k : Nat} {F : Frm → Res Fl} (d : DfnC K mg x st ps cdv) (S : FnScope N ps (defScope st))
    (body : ∀ (f : Addr) (A : Around) (outer : List Env) (s : Shared) (H : Hp) (E : XK), Room k (A.deeper (envOfC x (defScope st) s.heap.objs.size f cdv)) → DSs TS (cxOf (L2N.CX P w) P w K mg base N x (defScope st) f cdv A outer s H E) (defBody st) F) :
    Known TS P w K mg base (k + 1) x ps (defM ps.length N.length F) := by
  obtain ⟨f, fd, F1, hm, hb⟩ := d
  exact ⟨f, fd, fnok_mkC F1 S (body f), hm, F1.kp, hb⟩
theorem CtE.gx {X : Cx} {A' : Around} {s : Shared} {H : Hp} {cenv : Env} {fp : List Addr} {pn : List (Addr × Obj)} {k : Nat} (C : CtE X) (hr : Room k A') : CtE (gxX X A' s H cenv fp pn) := ⟨C.calm, C.nd, room_ct hr⟩
def spLawT (K : PySem.W.Frag) (TS : List Addr) : Sp := fun vs H Q _ => ∃ (a : Addr) (ns : List Int), vs = [.ref a] ∧ SqL K H a (ns.map V.int) ∧ ns.length ≤ 63 ∧ (∀ P ∈ TS, H P = some (.tbl #[])) ∧ ∀ H', Q (.bl true) H'
theorem sql_noTb {K : PySem.W.Frag} {H : Hp} {a : Addr} {xs : List V} (h : SqL K H a xs) : SqL K (noTb H) a xs := by
  rcases h with (h | ⟨o, h⟩) | ⟨o, its, n, h, hc, r⟩
  · exact .inl (.inl (noTb_some.mpr ⟨h, rfl⟩))
  · exact .inl (.inr ⟨o, noTb_some.mpr ⟨h, rfl⟩⟩)
  · exact .inr ⟨o, its, n, h, hc, r⟩
end Pyr
set_option Elab.async false
set_option autoImplicit false
set_option linter.all false
set_option maxRecDepth 100000
set_option maxHeartbeats 2000000
namespace Pyr
open PySem PySem.Spec PyProof.Rows L2 Evl
theorem tabIn_of {K : PySem.W.Frag} {x : Str} {f c P : Addr} {oc oc2 : Value} {od od2 : Option Addr} {sl sl2 : Array (Option Value)} {fd : FuncData} {vs : Array Value} (h1 : PySem.W.nsIn K mainGlobals x = some (some (.ref f))) (h2 : K.lookup f = some ⟨oc, od, .func fd, sl⟩) (h3 : fd.code = .ref c)
    (h4 : K.lookup c = some ⟨oc2, od2, .fields vs, sl2⟩) (h5 : vs[11]? = some (.ref P)) : PySem.W.tabIn K x = some (c, P) := by
  simp only [PySem.W.tabIn, h1, h2, h3, h4, h5]
section
variable {TS : TabList} {X : Cx} {a b c : Expr} {fa fb fc : En → Res D} {pos : Pos}
theorem de_gstr {x c : Str} (h : ∃ t, X.mg x = some (.str c t)) (hg : Gl X x) (hd : (x == ("__debug__" : Str)) = false := by decide) : DE TS X (.Name x pos) (eC (.str c)) := by
  obtain ⟨t, h⟩ := h
  exact de_glob (v := .str c) hg h ⟨t, rfl⟩ (fun _ => .str c) hd
theorem de_gint {x : Str} {i : Int} (h : ∃ t, X.mg x = some (.int i t)) (hg : Gl X x) (hd : (x == ("__debug__" : Str)) = false := by decide) : DE TS X (.Name x pos) (eC (.int i)) := by
  obtain ⟨t, h⟩ := h
  exact de_glob (v := .int i) hg h ⟨t, rfl⟩ (fun _ => .int i) hd
theorem gstr_of {K : PySem.W.Frag} {mg : Str → Option Value} {h : Heap} {x c : Str} (X : K.In h) (G : h.Ns mainGlobals mg) (y : ∃ t, PySem.W.nsIn K mainGlobals x = some (some (.str c t))) : ∃ t, mg x = some (.str c t) := by
  obtain ⟨t, y⟩ := y
  exact ⟨t, PySem.W.mg_of X G y⟩
theorem gint_of {K : PySem.W.Frag} {mg : Str → Option Value} {h : Heap} {x : Str} {i : Int} (X : K.In h) (G : h.Ns mainGlobals mg) (y : ∃ t, PySem.W.nsIn K mainGlobals x = some (some (.int i t))) : ∃ t, mg x = some (.int i t) := by
  obtain ⟨t, y⟩ := y
  exact ⟨t, PySem.W.mg_of X G y⟩
def int2D : D → Res D
  | .int i => .ok (.int i)
  | .bool b => .ok (.int (if b then 1 else 0))
  | .str x => match PySem.intText? x with
    | some n => if x.length ≤ 640 then .ok (.int n) else .bad
    | none => .bad
  | _ => .bad
theorem cd_int2 : CallD TS X (.type "int") (oneD int2D) := by
  refine ⟨?_⟩
  intro W σ vs ds G H Q ok rs p
  unfold oneD at p
  split at p
  · obtain ⟨v, rfl, r⟩ := rs.one_inv
    rename_i d
    cases r with
    | int i => exact wpC_of call_int1 (.inl ⟨_, rfl, fin1 ok p (.int _)⟩)
    | bl b => exact wpC_of call_int1 (.inr ⟨_, rfl, fin1 ok p (.int _)⟩)
    | str x =>
      have p : PostG (RelE X.K) TS X W σ G H (match PySem.intText? x with
        | some n => if x.length ≤ 640 then .ok (.int n) else .bad
        | none => .bad) Q := p
      cases e : PySem.intText? x with
      | none =>
        rw [e] at p
        exact p.elim
      | some n =>
        rw [e] at p
        have p : PostG (RelE X.K) TS X W σ G H (if x.length ≤ 640 then .ok (.int n) else .bad) Q := p
        split at p
        · rename_i hl
          exact wpC_of call_int_str ⟨x, n, rfl, e, hl, fin1 ok p (.int _)⟩
        · exact p.elim
    | _ => exact p.elim
  · exact p.elim
def strD : D → Res D
  | .int i => if i.natAbs.log2 < 1920 then .ok (.str (Str.ofString (toString i))) else .bad
  | _ => .bad
end
end Pyr
set_option Elab.async false
set_option autoImplicit false
set_option linter.all false
set_option maxRecDepth 100000
set_option maxHeartbeats 2000000
namespace Pyr
open PySem PySem.Spec PyProof.Rows L2 Evl
theorem gxF_all {t : Tg} {tt : En → Res Bool} {fe : En → Res D} {ρ : En} {p : D → Bool} : ∀ ds : List D, (∀ d ∈ ds, ∃ ρ1, tgE t d ρ = .ok ρ1 ∧ tt ρ1 = .ok true ∧ fe ρ1 = .ok (.bool (p d))) → gxF true t tt fe ρ ds = .ok (.bool (ds.all p))
  | [], _ => rfl
  | d :: ds, h => by
    obtain ⟨ρ1, h1, h2, h3⟩ := h d List.mem_cons_self
    show (tgE t d ρ).bind _ = _
    rw [h1]
    show (noX (tt ρ1)).bind _ = _
    rw [h2]
    show (noX (fe ρ1)).bind _ = _
    rw [h3]
    show (if p d = true then gxF true t tt fe ρ ds else .ok (.bool (p d))) = _
    rw [List.all_cons]
    cases hp : p d with
    | true =>
      rw [if_pos rfl, gxF_all ds fun d hd => h d (List.mem_cons_of_mem _ hd), Bool.true_and]
    | false => rw [if_neg (by decide), Bool.false_and]
theorem in_sign (c : Nat) (y : Str) : inD (.str ⟨#[c]⟩) (.str y) = .ok (.bool (decide (c ∈ y.cps.toList))) := by
  show (if (⟨#[c]⟩ : Str).length = 1 then Res.ok (PyData.bool (decide ((⟨#[c]⟩ : Str).cps.getD 0 0 ∈ y.cps.toList))) else .bad) = _
  rw [if_pos (show (⟨#[c]⟩ : Str).length = 1 from rfl)]
  rfl
theorem gx_signs {i : Nat} {ρ : En} {y : Str} {tt : En → Res Bool} (x : Str) (fe : En → Res D) (ht : ∀ ρ1, tt ρ1 = .ok true) (hf : ∀ c : Nat, fe (ρ.set i (some (.str ⟨#[c]⟩))) = inD (.str ⟨#[c]⟩) (.str y)) : gxF true (.nm i) tt fe ρ (signsD x) = .ok (.bool (x.cps.toList.all fun c => decide (c ∈ y.cps.toList))) := by
  rw [gxF_all (p := fun d => match d with | .str z => decide (z.cps.getD 0 0 ∈ y.cps.toList) | _ => false)]
  · unfold signsD
    rw [List.all_map]
    rfl
  · intro d hd
    unfold signsD at hd
    obtain ⟨c, _, rfl⟩ := List.mem_map.mp hd
    refine ⟨_, rfl, ht _, ?_⟩
    rw [hf, in_sign]
    rfl
theorem tl_len (x : Str) : x.length = x.cps.toList.length := by show x.cps.size = _; simp
theorem len_str {x : Str} (h : x.length ≤ LIM) : lenD (.str x) = .ok (.int x.length) := okL_ok h
theorem modD_int {i j : Int} (h : j ≠ 0) : modD (.int i) (.int j) = .ok (.int (i.fmod j)) := if_pos h
theorem fmod_nat (n : Int) {m : Nat} (hm : 0 < m) : ∃ j : Nat, n.fmod m = j ∧ j < m := ⟨(n.fmod m).toNat, by rw [Int.toNat_of_nonneg (Int.fmod_nonneg_of_pos _ (by omega))], by have := Int.fmod_lt_of_pos n (b := m) (by omega); have := Int.fmod_nonneg_of_pos n (b := m) (by omega); omega⟩
theorem addD_str {x y : Str} (h : x.length + y.length ≤ LIM) : addD (.str x) (.str y) = .ok (.str (x ++ y)) := okL_ok h
end Pyr
set_option Elab.async false
set_option autoImplicit false
set_option linter.all false
set_option maxRecDepth 100000
set_option maxHeartbeats 2000000
namespace Pyr
open PySem PySem.Spec PyProof.Rows L2 Evl
theorem set_any {i : Nat} {fe : En → Res D} {ρ : Frm} {d : D} (h : evP fe ρ = .ok d) : sSet i fe ρ = .ok (.next (ρ.set i (.val d))) := by unfold sSet; rw [h]; rfl
theorem app_any {i : Nat} {fe : En → Res D} {ρ : Frm} {ds : List D} {d : D} (h : ρ[i]? = some (Sl.own (.lst ds))) (he : evP fe ρ = .ok d) (hl : ds.length + 1 ≤ LIM) : sApp i fe ρ = .ok (.next (ρ.set i (.own (.lst (ds ++ [d]))))) := by unfold sApp; rw [h]; show (evP fe ρ).bind _ = _; rw [he]; exact okL_ok hl
theorem put_any {i : Nat} {fj fe : En → Res D} {ρ : Frm} {ds : List D} {d : D} {j : Nat} (h : ρ[i]? = some (Sl.own (.lst ds))) (he : evP fe ρ = .ok d) (hj : evP fj ρ = .ok (.int (j : Int))) (hl : j < ds.length) : sPut i fj fe ρ = .ok (.next (ρ.set i (.own (.lst (ds.set j d))))) := by
  unfold sPut
  rw [h]
  show (evP fe ρ).bind _ = _
  rw [he]
  show (evP fj ρ).bind _ = _
  rw [hj]
  show (match ixN ds.length (j : Int) with
      | some n => Res.ok (Fl.next (ρ.set i (.own (.lst (ds.set n d)))))
      | none => .bad) = _
  have e : ixN ds.length (j : Int) = some j := by
    unfold ixN
    rw [if_pos (by omega), if_pos (by omega)]
    simp
  rw [e]
theorem mulD_r {i j : Int} (h : -(2 ^ 64) < j ∧ j < 2 ^ 64) : mulD (.int i) (.int j) = .ok (.int (i * j)) := if_pos (.inr h)
theorem fdivD_r {i j : Int} (h : j ≠ 0 ∧ j.natAbs < 1073741824) : fdivD (.int i) (.int j) = .ok (.int (i.fdiv j)) := if_pos h
theorem fmod_in (n : Int) {m : Int} (hm : 0 < m) : 0 ≤ n.fmod m ∧ n.fmod m < m := ⟨Int.fmod_nonneg_of_pos _ hm, Int.fmod_lt_of_pos _ hm⟩
theorem e2_ok {g : D → D → Res D} {fa fb : En → Res D} {ρ : En} {x y : D} (ha : fa ρ = .ok x) (hb : fb ρ = .ok y) : e2 g fa fb ρ = g x y := by unfold e2; rw [ha, bind_ok, hb, bind_ok]
theorem one_ok {g : D → Res D} {fa : En → Res D} {ρ : En} {x : D} (ha : fa ρ = .ok x) : eN (oneD g) (aC fa a0) ρ = g x := by unfold eN aC a0; rw [ha]; rfl
theorem iF_ok {g : D → Res (List D)} {fa : En → Res D} {ρ : En} {x : D} (ha : fa ρ = .ok x) : iF g fa ρ = g x := by unfold iF; rw [ha, bind_ok]
theorem tE_ok {g : D → Res Bool} {fa : En → Res D} {ρ : En} {x : D} (ha : fa ρ = .ok x) : tE g fa ρ = g x := by unfold tE; rw [ha, bind_ok]
theorem aC_ok {fa : En → Res D} {fr : En → Res (List D)} {ρ : En} {x : D} {xs : List D} (ha : fa ρ = .ok x) (hr : fr ρ = .ok xs) : aC fa fr ρ = .ok (x :: xs) := by unfold aC; rw [ha, bind_ok, hr]; rfl
theorem eN_ok {g : List D → Res D} {fr : En → Res (List D)} {ρ : En} {xs : List D} (hr : fr ρ = .ok xs) : eN g fr ρ = g xs := by unfold eN; rw [hr, bind_ok]
theorem call_ok {m : List D → Res RV} {fr : En → Res (List D)} {ρ : En} {xs : List D} {r : RV} (hr : fr ρ = .ok xs) (hm : m xs = .ok r) : eCall m fr ρ = .ok r.d := by unfold eCall; rw [hr, bind_ok, hm]; rfl
theorem not_ok {t : En → Res Bool} {ρ : En} {b : Bool} (h : t ρ = .ok b) : tNotR t ρ = .ok (!b) := by unfold tNotR; rw [h, bind_ok]
theorem and_ok {t u : En → Res Bool} {ρ : En} {a b : Bool} (h : t ρ = .ok a) (h2 : a = true → u ρ = .ok b) : tAndR t u ρ = .ok (a && b) := by
  unfold tAndR
  rw [h, bind_ok]
  cases a with
  | true => rw [if_pos rfl, h2 rfl]; rfl
  | false => rfl
theorem or_ok {t u : En → Res Bool} {ρ : En} {a b : Bool} (h : t ρ = .ok a) (h2 : a = false → u ρ = .ok b) : tOrR t u ρ = .ok (a || b) := by
  unfold tOrR
  rw [h, bind_ok]
  cases a with
  | false => rw [if_neg (by decide), h2 rfl]; rfl
  | true => rfl
end Pyr
set_option Elab.async false
set_option autoImplicit false
set_option linter.all false
set_option maxRecDepth 100000
set_option maxHeartbeats 2000000
namespace Com
open PySem PySem.Spec PyProof.Rows L2 Evl Pyr
abbrev eL (f : En → Res (List Pyr.D)) : En → Res Pyr.D := fun ρ => (f ρ).map .list
def B__law_draws_0 : Frm → Res Fl := (sSeq (sSet 5 (eC (.int 0)))
  (sSeq (sIf (tE boolD (e2 gtD (eN (oneD lenD) (aC (eVar 2) a0)) (eC (.int 0)))) (sSeq (sSet 7 (e2 modD (eN (oneD int2D) (aC (eVar 4) a0)) (eN (oneD lenD) (aC (eVar 2) a0))))
  (sIf (tE boolD (e2 geD (e2 atD (eVar 2) (eVar 7)) (e2 powD (eC (.int 10)) (eC (.int 18))))) (sSeq (sSet 5 (e2 modD (eN (oneD int2D) (aC (e2 atD (eVar 2) (eVar 7)) a0)) (eC (.int 1000))))
  (sPut 2 (eVar 7) (e2 fdivD (e2 atD (eVar 2) (eVar 7)) (eC (.int 1000))))) (sSeq (sSet 8 (e2 modD (eN (oneD int2D) (aC (e2 addD (e2 addD (e2 mulD (e2 atD (eVar 2) (eVar 7)) (eC (.int 48271))) (e2 mulD (eVar 4) (eC (.int 69621)))) (eC (.int 11))) a0)) (eC (.int 2147483647))))
  (sSeq (sSet 8 (e2 modD (eN (oneD int2D) (aC (e2 addD (e2 mulD (eVar 8) (eC (.int 16807))) (eVar 7)) a0)) (eC (.int 2147483629))))
  (sSet 5 (e2 modD (eN (oneD int2D) (aC (e2 fdivD (eVar 8) (eC (.int 7))) a0)) (eC (.int 1000)))))))) sNext)
  (sApp 3 (eVar 5))))
def F__law_draws : Frm → Res Fl := (sSeq (sSetL 2 (lComp [6] (Tg.nm 6) (iF walkD (eVar 0)) tYesR (eVar 6)))
  (sSeq (sSetL 3 (lN a0))
  (sSeq (sForR (Tg.nm 4) (iF r1D (eVar 1)) B__law_draws_0)
  (sRetO 3))))
def m__law_draws : List D → Res RV := defM 2 9 F__law_draws
theorem pow18 : powD (.int 10) (.int 18) = .ok (.int 1000000000000000000) := by
  unfold powD
  simp only [show (0 : Int) ≤ 18 ∧ (18 : Int) ≤ 1000000 ∧ (10 : Int).natAbs < 2 ^ 64 by decide, if_true, and_self]
  rfl
abbrev drF (a b : Sl) (R : List Int) (Ds : List Pyr.D) (k : Int) (s5 s7 s8 : Sl) : Frm := [a, b, .own (.lst (R.map .int)), .own (.lst Ds), .val (.int k), s5, .emp, s7, s8]
theorem draw_one (a b : Sl) (R : List Int) (Ds : List Pyr.D) (k : Nat) (s5 s7 s8 : Sl) (hD : Ds.length + 1 ≤ LIM) (hR : R.length ≤ LIM) :
    ∃ R' v s7' s8', B__law_draws_0 (drF a b R Ds k s5 s7 s8) = .ok (.next (drF a b R' (Ds ++ [.int v]) k (.val (.int v)) s7' s8')) ∧ R'.length = R.length ∧ 0 ≤ v ∧ v < 1000 := by
  unfold B__law_draws_0
  rw [seq_ok (set_ok (d := .int 0) rfl)]
  rw [show (drF a b R Ds k s5 s7 s8).set 5 (.val (.int 0)) = drF a b R Ds k (.val (.int 0)) s7 s8 from rfl]
  have t1 : ∀ s5 s7 s8, (tE boolD (e2 gtD (eN (oneD lenD) (aC (eVar 2) a0)) (eC (.int 0)))) (frzE (drF a b R Ds k s5 s7 s8)) = .ok (decide (0 < R.length)) := fun s5 s7 s8 => by
    show Res.ok (decide ((0 : Int) < ((R.map PyData.int).length : Int))) = _
    rw [List.length_map]
    congr 1
    rw [decide_eq_decide]
    omega
  by_cases h0 : 0 < R.length
  · 
    have hk := fmod_nat (k : Int) h0
    obtain ⟨j, ej, hj⟩ := hk
    have hget : (R.map PyData.int)[j]? = some (.int R[j]) := by
      rw [List.getElem?_map, List.getElem?_eq_getElem hj]
      rfl
    have eat : ∀ s5 s8, evP (e2 modD (eN (oneD int2D) (aC (eVar 4) a0)) (eN (oneD lenD) (aC (eVar 2) a0))) (drF a b R Ds k s5 s7 s8) = .ok (.int (j : Int)) := fun s5 s8 => by
      refine evP_frz rfl ?_ rfl
      show modD (.int k) (.int ((R.map PyData.int).length : Int)) = _
      rw [List.length_map, modD_int (by omega), ej]
    have r0 : ∀ s5 s8, (e2 atD (eVar 2) (eVar 7)) (frzE (drF a b R Ds k s5 (.val (.int j)) s8)) = .ok (.int R[j]) := fun s5 s8 => by
      show atD (.list (R.map .int)) (.int (j : Int)) = _
      exact at_list hget
    have t2 : (tE boolD (e2 geD (e2 atD (eVar 2) (eVar 7)) (e2 powD (eC (.int 10)) (eC (.int 18))))) (frzE (drF a b R Ds k (.val (.int 0)) (.val (.int j)) s8)) = .ok (decide (1000000000000000000 ≤ R[j])) := by
      show (((e2 atD (eVar 2) (eVar 7)) (frzE (drF a b R Ds k (.val (.int 0)) (.val (.int j)) s8))).bind fun x => (powD (.int 10) (.int 18)).bind fun y => geD x y).bind boolD = _
      rw [r0, pow18]
      rfl
    by_cases h1 : 1000000000000000000 ≤ R[j]
    · refine ⟨R.set j (R[j].fdiv 1000), R[j].fmod 1000, .val (.int j), s8, ?_, by rw [List.length_set], (fmod_in _ (by decide)).1, (fmod_in _ (by decide)).2⟩
      rw [seq_ok (ρ' := drF a b (R.set j (R[j].fdiv 1000)) Ds k (.val (.int (R[j].fmod 1000))) (.val (.int j)) s8)]
      · rw [app_any (ds := Ds) (d := .int (R[j].fmod 1000)) rfl (evP_ok rfl) hD]
        rfl
      · rw [if_ok (t1 _ _ _), decide_eq_true h0, if_pos rfl, seq_ok (set_any (eat _ _))]
        show sIf _ _ _ (drF a b R Ds k (.val (.int 0)) (.val (.int j)) s8) = _
        rw [if_ok t2, decide_eq_true h1, if_pos rfl]
        rw [seq_ok (set_any (d := .int (R[j].fmod 1000)) ?_)]
        · show sPut _ _ _ (drF a b R Ds k (.val (.int (R[j].fmod 1000))) (.val (.int j)) s8) = _
          rw [put_any (ds := R.map .int) (d := .int (R[j].fdiv 1000)) (j := j) rfl ?_ (evP_ok rfl) (by rw [List.length_map]; exact hj)]
          · rw [show (R.map PyData.int).set j (.int (R[j].fdiv 1000)) = (R.set j (R[j].fdiv 1000)).map PyData.int by rw [List.map_set]]
            rfl
          · refine evP_frz rfl ?_ rfl
            show (((e2 atD (eVar 2) (eVar 7)) (frzE (drF a b R Ds k (.val (.int (R[j].fmod 1000))) (.val (.int j)) s8))).bind fun x => fdivD x (.int 1000)) = _
            rw [r0, bind_ok, fdivD_r (by decide)]
        · refine evP_frz rfl ?_ rfl
          show ((((e2 atD (eVar 2) (eVar 7)) (frzE (drF a b R Ds k (.val (.int 0)) (.val (.int j)) s8))).bind fun x => Res.ok [x]).bind (oneD int2D)).bind (fun x => modD x (.int 1000)) = _
          rw [r0]
          show modD (.int R[j]) (.int 1000) = _
          rw [modD_int (by decide)]
    · refine ⟨R, ((((((R[j] * 48271 + k * 69621 + 11).fmod 2147483647) * 16807 + j).fmod 2147483629).fdiv 7).fmod 1000), .val (.int j), .val (.int ((((R[j] * 48271 + k * 69621 + 11).fmod 2147483647) * 16807 + j).fmod 2147483629)), ?_, rfl, (fmod_in _ (by decide)).1, (fmod_in _ (by decide)).2⟩
      generalize hm1 : (R[j] * 48271 + (k : Int) * 69621 + 11).fmod 2147483647 = m1
      generalize hm2 : (m1 * 16807 + (j : Int)).fmod 2147483629 = m2
      generalize hv : (m2.fdiv 7).fmod 1000 = v
      rw [seq_ok (ρ' := drF a b R Ds k (.val (.int v)) (.val (.int j)) (.val (.int m2)))]
      · rw [app_any (ds := Ds) (d := .int v) rfl (evP_ok rfl) hD]
        rfl
      · rw [if_ok (t1 _ _ _), decide_eq_true h0, if_pos rfl, seq_ok (set_any (eat _ _))]
        show sIf _ _ _ (drF a b R Ds k (.val (.int 0)) (.val (.int j)) s8) = _
        rw [if_ok t2, decide_eq_false h1, if_neg (by decide)]
        rw [seq_ok (set_any (d := .int m1) ?_)]
        · show sSeq _ _ (drF a b R Ds k (.val (.int 0)) (.val (.int j)) (.val (.int m1))) = _
          rw [seq_ok (set_any (d := .int m2) ?_)]
          · show sSet _ _ (drF a b R Ds k (.val (.int 0)) (.val (.int j)) (.val (.int m2))) = _
            rw [set_any (d := .int v) ?_]
            · rfl
            · refine evP_ok ?_
              show ((((fdivD (.int m2) (.int 7)).bind fun x => Res.ok [x]).bind (oneD int2D)).bind fun x => modD x (.int 1000)) = _
              rw [fdivD_r (by decide)]
              show modD (.int (m2.fdiv 7)) (.int 1000) = _
              rw [modD_int (by decide), hv]
          · refine evP_ok ?_
            show (((((mulD (.int m1) (.int 16807)).bind fun x => addD x (.int j)).bind fun x => Res.ok [x]).bind (oneD int2D)).bind fun x => modD x (.int 2147483629)) = _
            rw [mulD_r (by decide)]
            show modD (.int (m1 * 16807 + j)) (.int 2147483629) = _
            rw [modD_int (by decide), hm2]
        · refine evP_frz rfl ?_ rfl
          refine (e2_ok (x := .int (R[j] * 48271 + (k : Int) * 69621 + 11)) (y := .int 2147483647) ?_ rfl).trans ?_
          · refine (one_ok (x := .int (R[j] * 48271 + (k : Int) * 69621 + 11)) ?_).trans rfl
            refine (e2_ok (x := .int (R[j] * 48271 + (k : Int) * 69621)) (y := .int 11) ?_ rfl).trans rfl
            exact (e2_ok ((e2_ok (r0 _ _) rfl).trans (mulD_r (i := R[j]) (j := 48271) (by decide))) ((e2_ok (x := .int k) (y := .int 69621) rfl rfl).trans (mulD_r (by decide)))).trans rfl
          rw [modD_int (by decide), hm1]
  · refine ⟨R, 0, s7, s8, ?_, rfl, by decide, by decide⟩
    rw [seq_ok (ρ' := drF a b R Ds k (.val (.int 0)) s7 s8)]
    · rw [app_any (ds := Ds) (d := .int 0) rfl (evP_ok rfl) hD]
      rfl
    · rw [if_ok (t1 _ _ _), decide_eq_false h0]
      rfl
theorem draw_loop (a b : Sl) : ∀ (n k : Nat) (R : List Int) (Ds : List Pyr.D) (s4 s5 s7 s8 : Sl), Ds.length + n ≤ LIM → R.length ≤ LIM →
    ∃ (R' : List Pyr.D) (vs : List Int) (s4' s5' s7' s8' : Sl), forF (Tg.nm 4) B__law_draws_0 (upto (k : Int) n) [a, b, .own (.lst (R.map .int)), .own (.lst Ds), s4, s5, .emp, s7, s8] = .ok (.next [a, b, .own (.lst R'), .own (.lst (Ds ++ vs.map .int)), s4', s5', .emp, s7', s8']) ∧ vs.length = n ∧ ∀ v ∈ vs, (0 : Int) ≤ v ∧ v < 1000
  | 0, k, R, Ds, s4, s5, s7, s8, _, _ => ⟨_, [], s4, s5, s7, s8, by rw [List.map_nil, List.append_nil]; rfl, rfl, fun _ h => by cases h⟩
  | n + 1, k, R, Ds, s4, s5, s7, s8, hD, hR => by
    obtain ⟨R1, v, s7', s8', e, hl, h1, h2⟩ := draw_one a b R Ds k s5 s7 s8 (by omega) hR
    obtain ⟨R', vs, t4, t5, t7, t8, e2, hn, hv⟩ := draw_loop a b n (k + 1) R1 (Ds ++ [.int v]) (.val (.int k)) (.val (.int v)) s7' s8' (by rw [List.length_append]; simp only [List.length_cons, List.length_nil]; omega) (by omega)
    refine ⟨R', v :: vs, t4, t5, t7, t8, ?_, by rw [List.length_cons, hn], fun z hz => ?_⟩
    · refine (forF_next (ρ1 := drF a b R Ds k s5 s7 s8) rfl e).trans ?_
      rw [List.append_assoc] at e2
      exact e2
    · rcases List.mem_cons.mp hz with rfl | hz
      · exact ⟨h1, h2⟩
      · exact hv z hz
theorem draws_run (xs : List Int) (n : Nat) (hx : xs.length ≤ LIM) (hn : n ≤ LIM) : ∃ vs : List Int, m__law_draws [.list (xs.map .int), .int n] = .ok (.own (vs.map .int)) ∧ vs.length = n ∧ ∀ v ∈ vs, (0 : Int) ≤ v ∧ v < 1000 := by
  unfold m__law_draws
  rw [defM_eq (np := 2) rfl, show frm0 9 [.list (xs.map .int), .int n] = [.val (.list (xs.map .int)), .val (.int n), .emp, .emp, .emp, .emp, .emp, .emp, .emp] from rfl]
  unfold F__law_draws
  rw [seq_ok (setL_ok (d := xs.map .int) ?_), seq_ok (setL_ok (d := []) rfl)]
  · show ∃ vs : List Int, outR (sSeq _ _ [.val (.list (xs.map .int)), .val (.int n), .own (.lst (xs.map .int)), .own (.lst []), .emp, .emp, .emp, .emp, .emp]) = _ ∧ _
    obtain ⟨R', vs, t4, t5, t7, t8, e, h1, h2⟩ := draw_loop (.val (.list (xs.map .int))) (.val (.int n)) n 0 xs [] .emp .emp .emp .emp (by rw [List.length_nil]; omega) hx
    refine ⟨vs, ?_, h1, h2⟩
    rw [seq_ok ((forR_ok (ds := upto 0 n) ((iF_ok (x := .int (n : Int)) rfl).trans (r1D_nat hn)) (upto_flat _ _)).trans e)]
    rfl
  · show okL (xs.map PyData.int).length (compF (Tg.nm 6) tYesR (eVar 6) _ (xs.map PyData.int)) = _
    rw [okL_ok (by rw [List.length_map]; exact hx), compF_map (g := fun d => d)]
    · rw [List.map_id']
    · intro d hd
      obtain ⟨z, _, rfl⟩ := List.mem_map.mp hd
      exact ⟨_, rfl, rfl, rfl⟩
end Com
set_option Elab.async false
set_option autoImplicit false
set_option linter.all false
set_option maxRecDepth 100000
set_option maxHeartbeats 2000000
namespace Pyr
open PySem PySem.Spec PyProof.Rows L2 Evl
def sSetT (t : Tg) (fe : En → Res D) : Frm → Res Fl := fun ρ => (evP fe ρ).bind fun d => (tgF t d ρ).bind fun ρ' => .ok (.next ρ')
theorem ds_setT {TS : TabList} {X : Cx} {e tg : Expr} {fe : En → Res D} {pos : Pos} {t : Tg} (he : DE TS X e fe) (hg : PG X tg (gTg X.K t)) (hs : swapsWithSole [tg] e pos.line X.env = pure false := by rfl) (hw : swappedStores [tg] e X.env = pure none := by rfl)
    (h1 : (assignEach [tg] X.env).map (·.2) = [assign tg X.env] := by rfl) : DSt TS X (.Assign [tg] e pos) (sSetT t fe) := by
  refine ⟨?_⟩
  intro W ρ σ G_0 H_0 G H fp D tk s p
  refine wpSt_of (ps_asg (pe_wp X e) hg hs hw h1) ?_
  refine evP_run he tk s p fun v d G1 H1 g r p => ?_
  cases e1 : tgF t d ρ with
  | exc c fs => exact (tgF_exc e1).elim
  | bad =>
    rw [e1] at p
    exact p.elim
  | ok ρ' =>
    rw [e1] at p
    exact gTgF_ok r (s.grow g) e1 fun σ' s' => p σ' G1 H1 fp g.g s'
  | alt f => exact (tgF_alt e1).elim
section
variable {TS : TabList} {X : Cx}
def isBD : D → D → Res D
  | .bool a, .bool b => .ok (.bool (decide (a = b)))
  | x, .none => isND x .none
  | _, _ => .bad
def notBD (x y : D) : Res D := (isBD x y).bind fun b => match b with
  | .bool b => .ok (.bool (!b))
  | _ => .bad
theorem od_isB : OpD TS X (compareOp .Is) isBD := by
  refine ⟨?_⟩
  intro W σ v u x y G H Q ok rx ry p
  cases ry with
  | non => cases rx <;> exact wpO_of op_isN ⟨rfl, fin1 ok p (.bl _)⟩
  | bl b =>
    cases rx with
    | bl a => exact wpO_of op_is_bl ⟨_, _, rfl, rfl, fin1 ok p (.bl _)⟩
    | _ => exact p.elim
  | _ => cases rx <;> exact p.elim
theorem od_notB : OpD TS X (compareOp .IsNot) notBD := by
  refine ⟨?_⟩
  intro W σ v u x y G H Q ok rx ry p
  cases ry with
  | non => cases rx <;> exact wpO_of op_notN ⟨rfl, fin1 ok p (.bl _)⟩
  | bl b =>
    cases rx with
    | bl a => exact wpO_of op_isnot_bl ⟨_, _, rfl, rfl, fin1 ok p (.bl _)⟩
    | _ => exact p.elim
  | _ => cases rx <;> exact p.elim
end
end Pyr
set_option Elab.async false
set_option autoImplicit false
set_option linter.all false
set_option maxRecDepth 100000
set_option maxHeartbeats 2000000
namespace Pyr
open PySem PySem.Spec PyProof.Rows L2 Evl
abbrev veM : List Value := [.type "ValueError", .type "Exception", .type "BaseException", .type "object"]
structure ExcC (K : PySem.W.Frag) (mg : Str → Option Value) (x : Str) (C : Addr) : Prop where
  is : PySem.W.excIn K C veM "ValueError.__new__" = true
  at_ : mg x = some (.ref C)
  kp : PySem.W.keepIn K (.ref C) = true
  sub : PySem.W.subIn K (.ref C) (.type "BaseException") = some true
  ty : PySem.W.typeIn K (.ref C) = some (.type "type")
section
variable {TS : TabList} {X : Cx} {C : Addr} {x : Str}
end
end Pyr
set_option Elab.async false
set_option autoImplicit false
set_option linter.all false
set_option maxRecDepth 100000
set_option maxHeartbeats 2000000
namespace Pyr
open PySem PySem.Spec PyProof.Rows L2 Evl
def repS (x : Str) (n : Nat) : Str := ⟨(List.replicate n x.cps.toList).flatten.toArray⟩
theorem fold_arr (a : Array Nat) : ∀ (n : Nat) (b : Array Nat), ((List.replicate n a).foldl (· ++ ·) b).toList = b.toList ++ (List.replicate n a.toList).flatten
  | 0, b => by simp
  | n + 1, b => by
    rw [List.replicate_succ, List.foldl_cons, fold_arr a n, List.replicate_succ, List.flatten_cons, Array.toList_append, List.append_assoc]
theorem txt_mul (x : Str) (n : Int) : Txt.mul x n = repS x n.toNat := by
  unfold Txt.mul
  by_cases h : n < 1
  · rw [if_pos h]
    have : n.toNat = 0 := by omega
    rw [this]
    rfl
  · rw [if_neg h]
    by_cases h2 : (n == 1 || x.length == 0) = true
    · rw [if_pos h2]
      apply TL.ext_tl
      show x.cps.toList = (List.replicate n.toNat x.cps.toList).flatten
      rw [Bool.or_eq_true] at h2
      rcases h2 with h2 | h2
      · have : n.toNat = 1 := by
          have := eq_of_beq h2
          omega
        rw [this]
        simp
      · have h3 : x.cps.size = 0 := eq_of_beq h2
        have h4 : x.cps.toList = [] := by
          have : x.cps.toList.length = 0 := by simpa using h3
          exact List.eq_nil_of_length_eq_zero this
        rw [h4]
        simp
    · rw [if_neg h2]
      apply TL.ext_tl
      show ((List.replicate n.toNat x.cps).foldl (· ++ ·) #[]).toList = _
      rw [fold_arr]
      rfl
section
variable {TS : TabList} {X : Cx}
theorem op_mul_str : OpR X (binaryOp .Mult) (fun x y H Q => ∃ i n, x = .str i ∧ y = .int n ∧ n.natAbs ≤ LIM ∧ i.length * n.toNat ≤ LIM ∧ Q (.str (repS i n.toNat)) H) := by
  intro pins s σ H x y v u Q I rx ry h
  obtain ⟨i, n, rfl, rfl, h1, h2, q⟩ := h
  obtain ⟨t, rfl⟩ := rx
  obtain ⟨t', rfl⟩ := ry
  have h1 : n.natAbs ≤ 100000 := h1
  have h2 : i.length * n.toNat ≤ 100000 := h2
  refine PySem.SB.mul ⟨?_, ?_, ?_⟩ fun t' k => ?_
  · rw [decide_eq_false (by omega), decide_eq_false (by omega)]
    rfl
  · intro a b hh
    have hn : 0 < n := by omega
    have := (Int.ediv_lt_iff_lt_mul hn).mp hh
    have e : ((i.length * n.toNat : Nat) : Int) = (i.length : Int) * n := by
      rw [Int.natCast_mul, Int.toNat_of_nonneg (by omega)]
    omega
  · intro _ _
    have : i.length * n.toNat ≤ sizeLine := Nat.le_trans h2 (by decide)
    exact decide_eq_false (by
      have e : sizeLine ≤ 2 ^ 63 - 1 - 64 := by decide
      omega)
  · rw [txt_mul]
    exact ⟨.str (repS i n.toNat), H, I.tok _, ⟨_, rfl⟩, q⟩
def mul2D : D → D → Res D
  | .str x, .int n => if n.natAbs ≤ LIM ∧ x.length * n.toNat ≤ LIM then .ok (.str (repS x n.toNat)) else .bad
  | .int i, .int j => mulD (.int i) (.int j)
  | _, _ => .bad
theorem od_mul2 : OpD TS X (binaryOp .Mult) mul2D := by
  refine ⟨?_⟩
  intro W σ v u x y G H Q ok rx ry p
  unfold mul2D at p
  split at p
  · cases rx
    cases ry
    split at p
    · rename_i h
      exact wpO_of op_mul_str ⟨_, _, rfl, rfl, h.1, h.2, fin1 ok p (.str _)⟩
    · exact p.elim
  · exact od_mul W σ v u _ _ G H Q ok rx ry p
  · exact p.elim
def fmtD : D → Res D
  | .str x => okL x.length (.ok (.str x))
  | .int i => if i.natAbs.log2 < 1920 then .ok (.str (Str.ofString (toString i))) else .bad
  | _ => .bad
variable {a : Expr} {fa : En → Res D} {es rest : List Expr} {fr : En → Res Str} {pos : Pos}
theorem de_fmt (ha : DE TS X a fa) : DE TS X (.FormattedValue a (-1) none pos) (e1 fmtD fa) := by
  refine ⟨?_⟩
  intro W ρ σ G H Q tk re ok post
  refine wpE_of (pe_fmt (pe_wp X a)) ?_
  unfold tFmt
  refine bindP back_E (fun Q' h => ha W ρ σ G H Q' tk re ok h) post fun v x G1 H1 _ g1 r post1 => ?_
  cases r with
  | str y =>
    obtain ⟨h, p⟩ := okL_post post1
    exact Or.inl ⟨y, rfl, lim_line h, p _ G1 H1 (Gr.refl g1.ok) (.str _)⟩
  | int i =>
    have post1 : PostG (RelE X.K) TS X W σ G1 H1 (if i.natAbs.log2 < 1920 then .ok (.str (Str.ofString (toString i))) else .bad) Q := post1
    split at post1
    · rename_i h
      exact Or.inr ⟨i, rfl, h, post1 _ G1 H1 (Gr.refl g1.ok) (.str _)⟩
    · exact post1.elim
  | _ => exact post1.elim
abbrev RelS : Hp → Hp → Hp → Str → Str → Prop := fun _ _ _ v b => v = b
theorem back_S : Back RelS := fun _ _ _ _ _ _ _ h => h
structure DJ (TS : TabList) (X : Cx) (es : List Expr) (f : En → Res Str) : Prop where
  run : ∀ (W : WX) (ρ : En) (σ : L2.St) (acc : Str) (G H : Hp) (Q : Str → Hp → Prop), Takes X W → RpE TS X.K G H ρ σ → Ok0 TS G H → PostG RelS TS X W σ G H ((f ρ).bind fun y => okL (acc ++ y).length (.ok (acc ++ y))) Q → tJs (es.map (wpE X)) acc σ H Q
def jC (fa : En → Res D) (fr : En → Res Str) : En → Res Str := fun ρ => (fa ρ).bind fun x => match x, fr ρ with
  | .str y, .ok r => .ok (y ++ r)
  | _, _ => .bad
def j0 : En → Res Str := fun _ => .ok Str.empty
theorem tl_app (x y : Str) : (x ++ y).cps.toList = x.cps.toList ++ y.cps.toList := by rw [Str.cps_append, Array.toList_append]
theorem app_empty (x : Str) : x ++ Str.empty = x := TL.ext_tl (by show (x ++ Str.empty).cps.toList = x.cps.toList; rw [tl_app]; simp [Str.empty])
theorem app_assoc (x y z : Str) : x ++ y ++ z = x ++ (y ++ z) := TL.ext_tl (by show (x ++ y ++ z).cps.toList = (x ++ (y ++ z)).cps.toList; simp only [tl_app, List.append_assoc])
theorem app_len (x y : Str) : (x ++ y).length = x.length + y.length := by simp only [tl_len, tl_app, List.length_append]
theorem dj_nil : DJ TS X [] j0 := .mk fun W ρ σ acc G H Q tk re ok post => by
  have post : PostG RelS TS X W σ G H (okL (acc ++ Str.empty).length (.ok (acc ++ Str.empty))) Q := post
  obtain ⟨_, p⟩ := okL_post post
  rw [app_empty] at p
  exact p acc G H (Gr.refl ok) rfl
theorem dj_cons (ha : DE TS X a fa) (hr : DJ TS X es fr) : DJ TS X (a :: es) (jC fa fr) := .mk fun W ρ σ acc G H Q tk re ok post => by
  have e : ((jC fa fr ρ).bind fun y => okL (acc ++ y).length (Res.ok (acc ++ y))) = (fa ρ).bind fun x => (match x, fr ρ with
    | .str y, .ok r => .ok (y ++ r)
    | _, _ => .bad : Res Str).bind fun y => okL (acc ++ y).length (Res.ok (acc ++ y)) := by
    unfold jC
    rw [bind_bind]
  rw [e] at post
  show wpE X a σ H fun x H1 => ∃ y : Str, x = .str y ∧ (acc ++ y).length ≤ sizeLine ∧ tJs (es.map (wpE X)) (acc ++ y) σ H1 Q
  refine bindP back_S (fun Q' h => ha W ρ σ G H Q' tk re ok h) post fun v x G1 H1 _ g1 r post1 => ?_
  cases r with
  | str y =>
    cases hf : fr ρ with
    | ok r =>
      rw [hf] at post1
      have post1 : PostG RelS TS X W σ G1 H1 (okL (acc ++ (y ++ r)).length (.ok (acc ++ (y ++ r)))) Q := post1
      have hl := (okL_post post1).1
      rw [← app_assoc] at post1
      refine ⟨y, rfl, ?_, hr.run W ρ σ (acc ++ y) G1 H1 Q tk (re.mono g1) g1.ok (by rw [hf]; exact post1)⟩
      rw [← app_assoc, app_len] at hl
      exact lim_line (by omega)
    | exc c fs =>
      rw [hf] at post1
      exact post1.elim
    | bad =>
      rw [hf] at post1
      exact post1.elim
    | alt f =>
      rw [hf] at post1
      exact post1.elim
  | _ => exact post1.elim
def eFs (fr : En → Res Str) : En → Res D := fun ρ => (fr ρ).bind fun y => okL y.length (.ok (.str y))
theorem pj_wp : ∀ es : List Expr, PJ X es (es.map (wpE X))
  | [] => .nil
  | e :: es => .cons (pe_wp X e) (pj_wp es)
theorem de_fstr {v1 v2 : Expr} (h : DJ TS X (v1 :: v2 :: rest) fr) : DE TS X (.JoinedStr (v1 :: v2 :: rest) pos) (eFs fr) := by
  refine ⟨?_⟩
  intro W ρ σ G H Q tk re ok post
  refine wpE_of (pe_joined (pj_wp _)) ?_
  refine h.run W ρ σ Str.empty G H _ tk re ok ?_
  have post : PostG (RelE X.K) TS X W σ G H ((fr ρ).bind fun y => okL y.length (.ok (.str y))) Q := post
  have ee : ∀ y : Str, Str.empty ++ y = y := fun y => TL.ext_tl (by show (Str.empty ++ y).cps.toList = y.cps.toList; rw [tl_app]; simp [Str.empty])
  revert post
  generalize fr ρ = r_
  intro post
  induction r_ with
  | ok y =>
    obtain ⟨hl, p⟩ := okL_post post
    show PostG RelS TS X W σ G H (okL (Str.empty ++ y).length (.ok (Str.empty ++ y))) _
    rw [ee, okL_ok hl]
    intro v G' H' g e
    cases e
    exact p _ G' H' g (.str y)
  | exc c fs =>
    exact post
  | bad =>
    exact post.elim
  | alt f_ ih => exact fun i => ih i (post i)
end
end Pyr
set_option Elab.async false
set_option autoImplicit false
set_option linter.all false
set_option maxRecDepth 100000
set_option maxHeartbeats 2000000
namespace Pyr
open PySem PySem.Spec PyProof.Rows L2 Evl
theorem run_mul {i j : Int} (h : -1099511627776 < j ∧ j < 1099511627776) : mul2D (.int i) (.int j) = .ok (.int (i * j)) := if_pos (.inr ⟨by omega, by omega⟩)
theorem run_mulS {x : Str} {n : Int} (h : n.natAbs ≤ 100000 ∧ x.length * n.toNat ≤ 100000) : mul2D (.str x) (.int n) = .ok (.str (repS x n.toNat)) := if_pos h
theorem run_add {i j : Int} : addD (.int i) (.int j) = .ok (.int (i + j)) := rfl
theorem run_sub {i j : Int} : subD (.int i) (.int j) = .ok (.int (i - j)) := rfl
theorem run_addS {x y : Str} (h : x.length + y.length ≤ 100000) : addD (.str x) (.str y) = .ok (.str (x ++ y)) := okL_ok h
theorem run_mod {i j : Int} (h : j ≠ 0) : modD (.int i) (.int j) = .ok (.int (i.fmod j)) := if_pos h
theorem run_fdiv {i j : Int} (h : j ≠ 0 ∧ j.natAbs < 1073741824) : fdivD (.int i) (.int j) = .ok (.int (i.fdiv j)) := if_pos h
theorem run_lt {i j : Int} : ltD (.int i) (.int j) = .ok (.bool (decide (i < j))) := rfl
theorem run_le {i j : Int} : leD (.int i) (.int j) = .ok (.bool (decide (i ≤ j))) := rfl
theorem run_gt {i j : Int} : gtD (.int i) (.int j) = .ok (.bool (decide (j < i))) := rfl
theorem run_ge {i j : Int} : geD (.int i) (.int j) = .ok (.bool (decide (j ≤ i))) := rfl
theorem run_lenL {ds : List D} : lenD (.list ds) = .ok (.int ds.length) := rfl
theorem run_lenT {ds : List D} : lenD (.tuple ds) = .ok (.int ds.length) := rfl
theorem run_okL {α : Type} {n : Nat} {r : Res α} (h : n ≤ 100000) : okL n r = r := okL_ok h
theorem run_lenS {x : Str} (h : x.length ≤ 100000) : lenD (.str x) = .ok (.int x.length) := okL_ok h
theorem run_int {i : Int} : int2D (.int i) = .ok (.int i) := rfl
theorem run_bool {b : Bool} : boolD (.bool b) = .ok b := rfl
theorem run_truB {b : Bool} : truD (.bool b) = .ok b := rfl
theorem run_truL {ds : List D} : truD (.list ds) = .ok (!ds.isEmpty) := rfl
def purS : Sl → Option D
  | .val d => some d
  | .own (.lst ds) => some (loD ds)
  | .own (.set ds) => some (stD ds)
  | .own (.tup _) => none
  | .own (.dic _) => none
  | .own (.dil _ _) => none
  | .own (.mix _ _ _) => none
  | .own .strm => some (stD [.bool false])
  | .own (.exc c) => some (exD c)
  | .emp => none
def frzS : Sl → Option D
  | .val d => some d
  | .own o => o.d
  | .emp => none
theorem run_pur1 {x : Sl} {ρ : Frm} : purE (x :: ρ) = purS x :: purE ρ := by
  cases x with
  | own o => cases o <;> rfl
  | _ => rfl
theorem run_frz1 {x : Sl} {ρ : Frm} : frzE (x :: ρ) = frzS x :: frzE ρ := rfl
theorem run_pSv {d : D} : purS (.val d) = some d := rfl
theorem run_pSo {ds : List D} : purS (.own (.lst ds)) = some (loD ds) := rfl
theorem run_pSe : purS .emp = none := rfl
theorem run_fSv {d : D} : frzS (.val d) = some d := rfl
theorem run_fSo {ds : List D} : frzS (.own (.lst ds)) = some (.list ds) := rfl
theorem run_fSe : frzS .emp = none := rfl
theorem run_pur0 : purE [] = [] := rfl
theorem run_frz0 : frzE [] = [] := rfl
theorem run_v0n {ρ : En} : eVar 0 (some PyData.none :: ρ) = .ok .none := rfl
theorem run_v0b {b : Bool} {ρ : En} : eVar 0 (some (.bool b) :: ρ) = .ok (.bool b) := rfl
theorem run_v0i {i : Int} {ρ : En} : eVar 0 (some (.int i) :: ρ) = .ok (.int i) := rfl
theorem run_v0s {x : Str} {ρ : En} : eVar 0 (some (.str x) :: ρ) = .ok (.str x) := rfl
theorem run_v0l {ds : List D} {ρ : En} : eVar 0 (some (.list ds) :: ρ) = .ok (.list ds) := rfl
theorem run_v0t {ds : List D} {ρ : En} : eVar 0 (some (.tuple ds) :: ρ) = .ok (.tuple ds) := rfl
theorem run_v0o {ds : List D} {ρ : En} : eVar 0 (some (loD ds) :: ρ) = .bad := rfl
theorem run_vN {ρ : En} : eVar 0 (none :: ρ) = .bad := rfl
theorem run_vS {i : Nat} {x : Option D} {ρ : En} : eVar (i + 1) (x :: ρ) = eVar i ρ := rfl
theorem run_bad {α β : Type} {k : α → Res β} : (Res.bad : Res α).bind k = .bad := rfl
theorem run_exc {α β : Type} {c : Str} {fs : List (Str × D)} {k : α → Res β} : (Res.exc c fs : Res α).bind k = .exc c fs := rfl
theorem run_map {α β : Type} {f : α → β} {a : α} : (Res.ok a).map f = .ok (f a) := rfl
theorem isi_str_n : isiD "str" (PyData.none) = .ok (.bool false) := rfl
theorem isi_str_b {b : Bool} : isiD "str" (.bool b) = .ok (.bool false) := rfl
theorem isi_str_i {i : Int} : isiD "str" (.int i) = .ok (.bool false) := rfl
theorem isi_str_s {s : Str} : isiD "str" (.str s) = .ok (.bool true) := rfl
theorem isi_str_l {l : List D} : isiD "str" (.list l) = .ok (.bool false) := rfl
theorem isi_str_t {t : List D} : isiD "str" (.tuple t) = .ok (.bool false) := rfl
theorem isi_str_d {d : List (D × D)} : isiD "str" (.dict d) = .ok (.bool false) := by cases h : ptB d <;> simp only [isiD, isiB, tyN, h] <;> rfl
theorem isi_int_n : isiD "int" (PyData.none) = .ok (.bool false) := rfl
theorem isi_int_b {b : Bool} : isiD "int" (.bool b) = .ok (.bool true) := rfl
theorem isi_int_i {i : Int} : isiD "int" (.int i) = .ok (.bool true) := rfl
theorem isi_int_s {s : Str} : isiD "int" (.str s) = .ok (.bool false) := rfl
theorem isi_int_l {l : List D} : isiD "int" (.list l) = .ok (.bool false) := rfl
theorem isi_int_t {t : List D} : isiD "int" (.tuple t) = .ok (.bool false) := rfl
theorem isi_int_d {d : List (D × D)} : isiD "int" (.dict d) = .ok (.bool false) := by cases h : ptB d <;> simp only [isiD, isiB, tyN, h] <;> rfl
theorem isi_bool_n : isiD "bool" (PyData.none) = .ok (.bool false) := rfl
theorem isi_bool_b {b : Bool} : isiD "bool" (.bool b) = .ok (.bool true) := rfl
theorem isi_bool_i {i : Int} : isiD "bool" (.int i) = .ok (.bool false) := rfl
theorem isi_bool_s {s : Str} : isiD "bool" (.str s) = .ok (.bool false) := rfl
theorem isi_bool_l {l : List D} : isiD "bool" (.list l) = .ok (.bool false) := rfl
theorem isi_bool_t {t : List D} : isiD "bool" (.tuple t) = .ok (.bool false) := rfl
theorem isi_bool_d {d : List (D × D)} : isiD "bool" (.dict d) = .ok (.bool false) := by cases h : ptB d <;> simp only [isiD, isiB, tyN, h] <;> rfl
theorem isi_list_n : isiD "list" (PyData.none) = .ok (.bool false) := rfl
theorem isi_list_b {b : Bool} : isiD "list" (.bool b) = .ok (.bool false) := rfl
theorem isi_list_i {i : Int} : isiD "list" (.int i) = .ok (.bool false) := rfl
theorem isi_list_s {s : Str} : isiD "list" (.str s) = .ok (.bool false) := rfl
theorem isi_list_l {l : List D} : isiD "list" (.list l) = .ok (.bool true) := rfl
theorem isi_list_t {t : List D} : isiD "list" (.tuple t) = .ok (.bool false) := rfl
theorem isi_list_d {d : List (D × D)} : isiD "list" (.dict d) = .ok (.bool false) := by cases h : ptB d <;> simp only [isiD, isiB, tyN, h] <;> rfl
theorem isi_tuple_n : isiD "tuple" (PyData.none) = .ok (.bool false) := rfl
theorem isi_tuple_b {b : Bool} : isiD "tuple" (.bool b) = .ok (.bool false) := rfl
theorem isi_tuple_i {i : Int} : isiD "tuple" (.int i) = .ok (.bool false) := rfl
theorem isi_tuple_s {s : Str} : isiD "tuple" (.str s) = .ok (.bool false) := rfl
theorem isi_tuple_l {l : List D} : isiD "tuple" (.list l) = .ok (.bool false) := rfl
theorem isi_tuple_t {t : List D} : isiD "tuple" (.tuple t) = .ok (.bool true) := rfl
theorem isi_tuple_d {d : List (D × D)} (h : ptB d = false) : isiD "tuple" (.dict d) = .ok (.bool false) := by simp only [isiD, isiB, tyN, h]; rfl
theorem isi_dict_n : isiD "dict" (PyData.none) = .ok (.bool false) := rfl
theorem isi_dict_b {b : Bool} : isiD "dict" (.bool b) = .ok (.bool false) := rfl
theorem isi_dict_i {i : Int} : isiD "dict" (.int i) = .ok (.bool false) := rfl
theorem isi_dict_s {s : Str} : isiD "dict" (.str s) = .ok (.bool false) := rfl
theorem isi_dict_l {l : List D} : isiD "dict" (.list l) = .ok (.bool false) := rfl
theorem isi_dict_t {t : List D} : isiD "dict" (.tuple t) = .ok (.bool false) := rfl
theorem isi_dict_d {d : List (D × D)} (h : ptB d = false) : isiD "dict" (.dict d) = .ok (.bool true) := by simp only [isiD, isiB, tyN, h]; rfl
theorem run_atT0 {a : D} {l : List D} : atD (.tuple (a :: l)) (.int 0) = .ok a := at_tup (k := 0) rfl
theorem run_atT1 {a b : D} {l : List D} : atD (.tuple (a :: b :: l)) (.int 1) = .ok b := at_tup (k := 1) rfl
theorem run_atT2 {a b c : D} {l : List D} : atD (.tuple (a :: b :: c :: l)) (.int 2) = .ok c := at_tup (k := 2) rfl
theorem run_atT3 {a b c d : D} {l : List D} : atD (.tuple (a :: b :: c :: d :: l)) (.int 3) = .ok d := at_tup (k := 3) rfl
theorem run_atT4 {a b c d e : D} {l : List D} : atD (.tuple (a :: b :: c :: d :: e :: l)) (.int 4) = .ok e := at_tup (k := 4) rfl
theorem run_atL0 {a : D} {l : List D} : atD (.list (a :: l)) (.int 0) = .ok a := at_list (k := 0) rfl
theorem run_atL1 {a b : D} {l : List D} : atD (.list (a :: b :: l)) (.int 1) = .ok b := at_list (k := 1) rfl
theorem run_atL2 {a b c : D} {l : List D} : atD (.list (a :: b :: c :: l)) (.int 2) = .ok c := at_list (k := 2) rfl
theorem run_atL3 {a b c d : D} {l : List D} : atD (.list (a :: b :: c :: d :: l)) (.int 3) = .ok d := at_list (k := 3) rfl
theorem run_atL4 {a b c d e : D} {l : List D} : atD (.list (a :: b :: c :: d :: e :: l)) (.int 4) = .ok e := at_list (k := 4) rfl
end Pyr
set_option Elab.async false
set_option autoImplicit false
set_option linter.all false
set_option maxRecDepth 100000
set_option maxHeartbeats 2000000
namespace Pyr
open PySem PySem.Spec PyProof.Rows L2 Evl
section
variable {TS : TabList} {X : Cx} {W : WX} {c : Expr} {ft : En → Res Bool} {F : Frm → Res Fl} {body : List Stmt} {pos : Pos}
end
mutual
inductive Tr where
  | nm (i : Nat)
  | tp (ts : Trs)
inductive Trs where
  | nil
  | cons (t : Tr) (ts : Trs)
end
def Trs.len : Trs → Nat
  | .nil => 0
  | .cons _ ts => ts.len + 1
mutual
def trF : Tr → D → Frm → Res Frm
  | .nm i, d, ρ => .ok (ρ.set i (.val d))
  | .tp ts, d, ρ => match d with
    | .tuple ds => if ds.length = ts.len then trsF ts ds ρ else .bad
    | _ => .bad
def trsF : Trs → List D → Frm → Res Frm
  | .nil, _, ρ => .ok ρ
  | .cons t ts, ds, ρ => match ds with
    | d :: ds => (trF t d ρ).bind fun ρ1 => trsF ts ds ρ1
    | [] => .bad
end
section
variable {TS : TabList} {K : PySem.W.Frag} {G_0 H_0 G H : Hp} {fp : Nat → List Addr}
end
def sPop (i : Nat) (t : Tr) : Frm → Res Fl := fun ρ => match ρ[i]? with
  | some (Sl.own (.lst ds)) => match ds.getLast? with
    | some d => match trF t d (ρ.set i (.own (.lst ds.dropLast))) with
      | .ok ρ' => .ok (.next ρ')
      | _ => .bad
    | none => .bad
  | _ => .bad
section
variable {TS : TabList} {X : Cx} {W : WX} {pos : Pos} {tg : Expr} {t : Tr}
end
end Pyr
set_option Elab.async false
set_option autoImplicit false
set_option linter.all false
set_option maxRecDepth 100000
set_option maxHeartbeats 4000000
namespace Pyr
open PySem PySem.Spec PyProof.Rows L2 Evl
section
variable {prog : Program} {w : World} {A : Around} {E : Value → Shared → Prop} {s : Shared}
end
section
variable {TS : TabList} {X : Cx} {a : Expr} {fa : En → Res D} {pos p1 p2 p3 : Pos} {k : Nat}
def backD : D → Res D
  | .tuple ds => .ok (.tuple ds.reverse)
  | _ => .bad
theorem rps_app {K : PySem.W.Frag} {G : Hp} {v : V} {d : D} (r : Rp K G v d) : ∀ {vs : List V} {ds : List D}, Rps K G vs ds → Rps K G (vs ++ [v]) (ds ++ [d]) := fun h => h.app (.cons r .nil)
theorem rps_rev {K : PySem.W.Frag} {G : Hp} : ∀ {vs : List V} {ds : List D}, Rps K G vs ds → Rps K G vs.reverse ds.reverse
  | _, _, .nil => .nil
  | _, _, .cons r rs => by
    rw [List.reverse_cons, List.reverse_cons]
    exact rps_app r (rps_rev rs)
end
end Pyr
set_option Elab.async false
set_option autoImplicit false
set_option linter.all false
set_option maxRecDepth 100000
set_option maxHeartbeats 2000000
namespace Pyr
open PySem PySem.Spec PyProof.Rows L2 Evl
section
variable {TS : TabList} {X : Cx} {a b e : Expr} {fa fb : En → Res D} {fl : En → Res (List D)} {pos : Pos}
def ownI (i : Nat) : En → Res (List D) := fun ρ => match ρ[i]? with
  | some (some (.dict [(.none, .list ds)])) => .ok ds
  | some (some (.list ds)) => .ok ds
  | _ => .bad
def eIxV (i : Nat) (fb : En → Res D) : En → Res D := fun ρ => (ownI i ρ).bind fun ds => (fb ρ).bind fun j => atD (.list ds) j
theorem own_there {K : PySem.W.Frag} {G H : Hp} {ρ : En} {σ : L2.St} {i : Nat} {ds : List D} (re : RpE TS K G H ρ σ) (ok : Ok0 TS G H) (h : ownI i ρ = .ok ds) : ∃ p vs, σ[i]? = some (some (.ref p)) ∧ SqL K H p vs ∧ (∀ G' H', Gr TS G H G' H' → SqL K H' p vs) ∧ Rps K G vs ds := by
  unfold ownI at h
  split at h
  · rename_i es he
    cases h
    obtain ⟨p, vs, h1, h2, h3⟩ := re.lo i _ he
    exact ⟨p, vs, h1, SqL.of h2, fun G' H' g => SqL.of (g.h.at h2 rfl), h3⟩
  · rename_i es he
    cases h
    obtain ⟨v, h1, r⟩ := re.at' i _ he rfl
    obtain ⟨p, vs, rfl, hp, rs⟩ := r.list_inv
    exact ⟨p, vs, h1, ex_l ok.le hp, fun G' H' g => ex_l (g.g.trans g.ok.le) hp, rs⟩
  · cases h
theorem de_ixV (i : Nat) {x : Str} {pos' : Pos} (hb : DE TS X b fb) (hN : X.N[i]? = some x := by rfl) (hv : Vis X.env.scope x := by first | exact Or.inl rfl | exact Or.inr (Or.inl rfl) | exact Or.inr (Or.inr rfl)) (hd : (x == ("__debug__" : Str)) = false := by decide) (hcd : (x == ("__classdict__" : Str)) = false := by decide)
    (hs : PlainIx b := by exact fun _ _ => rfl) : DE TS X (.Subscript (.Name x pos') b pos) (eIxV i fb) := by
  refine ⟨?_⟩
  intro W ρ σ G H Q tk re ok post
  have post : PostG (RelE X.K) TS X W σ G H ((ownI i ρ).bind fun ds => (fb ρ).bind fun j => atD (.list ds) j) Q := post
  refine wpE_of (pe_ix (ixr_wp) (pe_var hN hv hd hcd) (pe_wp X b) hs) ?_
  cases ho : ownI i ρ with
  | ok ds =>
    rw [ho] at post
    obtain ⟨p, vs, h1, h2, h3, h4⟩ := own_there re ok ho
    refine ⟨_, h1, ?_⟩
    refine bindP back_E (fun Q' h => hb W ρ σ G H Q' tk re ok h) post fun u y G2 H2 _ g2 ry p2 => ?_
    cases ry with
    | int j =>
      have p2 : PostG (RelE X.K) TS X W σ G2 H2 (match atI ds j with
        | some d => .ok d
        | none => .bad) Q := p2
      split at p2
      · rename_i d hd
        obtain ⟨w, e1, e2⟩ := atI_rel h4 hd
        exact wpI_of ix_list ⟨p, vs, j, w, rfl, rfl, h3 G2 H2 g2, e1, fin1 g2.ok p2 (e2.mono g2.g)⟩
      · exact p2.elim
    | _ => exact p2.elim
  | exc c fs =>
    unfold ownI at ho
    split at ho <;> cases ho
  | bad =>
    rw [ho] at post
    exact post.elim
  | alt f =>
    unfold ownI at ho
    split at ho <;> cases ho
def lAdd (fa fb : En → Res D) : En → Res (List D) := fun ρ => (fa ρ).bind fun x => (fb ρ).bind fun y => match x, y with
  | .list xs, .list ys => okL (xs.length + ys.length) (.ok (xs ++ ys))
  | _, _ => .bad
def intsD : List D → Option (List Int)
  | [] => some []
  | .int i :: ds => (intsD ds).map (i :: ·)
  | _ :: _ => none
def maxL : List Int → Int
  | [] => 0
  | [x] => x
  | x :: y :: r => max x (maxL (y :: r))
def maxD : List D → Res D
  | [.int i, .int j] => .ok (.int (if j > i then j else i))
  | [.list ds] => match intsD ds with
    | some (n :: ns) => .ok (.int (maxL (n :: ns)))
    | _ => .bad
  | _ => .bad
def minD : List D → Res D
  | [.int i, .int j] => .ok (.int (if j < i then j else i))
  | _ => .bad
theorem run_max2 {i j : Int} : maxD [.int i, .int j] = .ok (.int (if j > i then j else i)) := rfl
theorem run_min2 {i j : Int} : minD [.int i, .int j] = .ok (.int (if j < i then j else i)) := rfl
def sExt (i : Nat) (fl : En → Res (List D)) : Frm → Res Fl := fun ρ => match ρ[i]? with
  | some (Sl.own (.lst ds)) => (evL fl ρ).bind fun es => okL (ds.length + es.length) (.ok (.next (ρ.set i (.own (.lst (ds ++ es))))))
  | _ => .bad
end
end Pyr
set_option Elab.async false
set_option autoImplicit false
set_option linter.all false
set_option maxRecDepth 100000
set_option maxHeartbeats 4000000
namespace Pyr
open PySem PySem.Spec PyProof.Rows L2 Evl
section
variable {prog : Program} {w : World} {A : Around} {E : Value → Shared → Prop} {s : Shared}
end
section
variable {TS : TabList} {X : Cx} {e : Expr} {fe : En → Res D} {pos p1 p2 : Pos}
end
end Pyr
set_option Elab.async false
set_option autoImplicit false
set_option linter.all false
set_option maxRecDepth 100000
set_option maxHeartbeats 4000000
namespace Pyr
open PySem PySem.Spec PyProof.Rows L2 Evl
section
variable {prog : Program} {w : World} {A : Around} {R : Result → Shared → Prop} {I : Addr} {fp wr : List Addr} {G : Array GenState → Array GenState → Prop} {n : Nat} {Pi : Nat → Value → Prop} {St : Nat → Shared → Prop}
end
section
variable {prog : Program} {w : World} {A : Around} {E : Value → Shared → Prop} {s : Shared}
end
section
variable {X : Cx} {pins : List (Addr × Obj)} {σ : L2.St} {H : Hp} {s : Shared}
mutual
theorem key_at (I : Inv X pins σ H s) : ∀ (d : D) (v : V) (u : Value), Rp X.K H v d → keyB d = true → RelV v u → NestedIs s.heap (nk d) u
  | .int i, _, u, r, _, ru => by
    cases r
    obtain ⟨t, rfl⟩ := (show ∃ t, u = Value.int i t from ru)
    exact .int i t
  | .str x, _, u, r, _, ru => by
    cases r
    obtain ⟨t, rfl⟩ := (show ∃ t, u = Value.str x t from ru)
    exact .text x t
  | .tuple ds, _, u, r, k, ru => by
    cases r with
    | tup sq rs =>
      cases (show u = Value.ref _ from ru)
      obtain ⟨its, rv, ⟨o, ho, hc, n, hd⟩, _⟩ := I.tuple sq
      exact .tup ho hc hd (by simpa using keys_at I ds _ _ rs k rv)
  | .none, _, _, _, k, _ => by simp [keyB] at k
  | .bool _, _, _, _, k, _ => by simp [keyB] at k
  | .list _, _, _, _, k, _ => by simp [keyB] at k
  | .dict _, _, _, _, k, _ => by simp [keyB] at k
theorem keys_at (I : Inv X pins σ H s) : ∀ (ds : List D) (vs : List V) (us : List Value), Rps X.K H vs ds → keysB ds = true → Vals vs us → NestedAll s.heap (nks ds) us
  | [], _, _, r, _, ru => by
    cases r
    cases ru
    exact .nil
  | d :: ds, _, _, r, k, ru => by
    rw [keysB, Bool.and_eq_true] at k
    cases r with
    | cons r rs =>
      cases ru with
      | cons ru rus => exact .cons (key_at I d _ _ r k.1 ru) (keys_at I ds _ _ rs k.2 rus)
end
end
theorem keysB_mem : ∀ {ds : List D}, keysB ds = true → ∀ d ∈ ds, keyB d = true
  | _ :: ds, h, d, hd => by
    rw [keysB, Bool.and_eq_true] at h
    cases hd with
    | head => exact h.1
    | tail _ hd => exact keysB_mem h.2 d hd
theorem one_of {K : PySem.W.Frag} {G : Hp} {ps : List (Addr × NestedKey)} {ds : List D} (r : Rps K G (ps.map fun e => V.ref e.1) ds) (hk : nks ds = ps.map (·.2)) : ∀ e ∈ ps, ∃ d ∈ ds, Rp K G (.ref e.1) d ∧ nk d = e.2 := by
  induction ps generalizing ds with
  | nil => intro e he; cases he
  | cons p ps ih =>
    cases r with
    | @cons _ _ d ds r rs =>
      simp only [nks, List.map_cons, List.cons.injEq] at hk
      intro e he
      cases he with
      | head => exact ⟨d, List.mem_cons_self, r, hk.1⟩
      | tail _ he =>
        obtain ⟨d', h1, h2⟩ := ih rs hk.2 e he
        exact ⟨d', List.mem_cons_of_mem _ h1, h2⟩
theorem keys_in {X : Cx} {pins : List (Addr × Obj)} {σ : L2.St} {H : Hp} {s : Shared} {ps : List (Addr × NestedKey)} {ds : List D} (I : Inv X pins σ H s) (r : Rps X.K H (ps.map fun e => V.ref e.1) ds) (hk : nks ds = ps.map (·.2)) (hb : keysB ds = true) (hd : ∀ d ∈ ds, d.depth ≤ 8) : ∀ e ∈ ps, KAt s.heap e.2 e.1 := fun e he => by
  obtain ⟨d, d1, d2, d3⟩ := one_of r hk e he
  rw [← d3]
  exact ⟨key_at I d _ _ d2 (keysB_mem hb d d1) rfl, Nat.le_trans (nk_depth d) (hd d d1)⟩
theorem KeyS.none {P : Program} {w : World} {h : Heap} {a : Addr} (S : KeyS P w h a []) : h.SetOf (PySem.strKind P w) a (fun _ => false) 0 := by
  obtain ⟨L, es, ep, t, R, sub, _⟩ := S.full fun e he => (by cases he)
  have : L = [] := List.eq_nil_iff_forall_not_mem.mpr fun e he => nomatch sub e he
  subst this
  obtain ⟨o, ho, hex, hd⟩ := R.here
  have z := R.cont
  have z2 : es = #[] := by
    cases es
    simp only [entN, List.map_nil] at z
    rw [z]
  have ft := SetN.fit (s := { heap := h }) R
  subst z2
  exact ⟨o, #[], ep, t, ho, hex, hd, fun e he => (by simp at he), fun k => by simp, by decide, ft, rfl⟩
section
variable {TS : TabList} {X : Cx} {a e : Expr} {fa : En → Res D} {pos : Pos}
end
end Pyr
set_option Elab.async false
set_option autoImplicit false
set_option linter.all false
set_option maxRecDepth 100000
set_option maxHeartbeats 2000000
namespace Pyr
open PySem PySem.Spec PyProof.Rows L2 Evl
structure FnTop (P : Program) (w : World) (K : PySem.W.Frag) (mg : Str → Option Value) (base : Heap) (f : Addr) (fd : FuncData) (ps : List Str) (sp : Sp) : Prop where
  run : ∀ (s : Shared) (H : Hp) (us : List Value) (vs : List V) (Q : VK) (E : XK), Env0 P w K mg base callerA [] s H → BindsTo s fd ⟨us, []⟩ (ps.zip us) → Vals vs us → sp vs H Q E → codeAny (model P w) callerA (.call (.ref f) ⟨us, []⟩) (CR (L2N.CX P w) [] P w H s Q E) s
section
variable {TS : TabList} {P : Program} {w : World} {K : PySem.W.Frag} {mg : Str → Option Value} {base : Heap} {qual : Str} {st : Stmt} {f : Addr} {N ps : List Str} {F : Frm → Res Fl} {k : Nat}
theorem fn_top {kV doc pm cdv ct oc : Value} {an od : Option Addr} {osl : Array (Option Value)} (hr : Room (k + 1) callerA)
    (lk : K.lookup f = some ⟨oc, od, .func (PySem.W.fnOf qual qual (defArgs st) (defBody st) (defScope st) .none kV doc pm an cdv ct), osl⟩) (hcd : PySem.W.codeIn K cdv qual = true) (S : FnScope N ps (defScope st))
    (body : ∀ (s : Shared) (H : Hp) (E : XK), Room k (callerA.deeper (envOfC qual (defScope st) s.heap.objs.size f cdv)) → DSs TS (cxOf (L2N.CX P w) P w K mg base N qual (defScope st) f cdv callerA [] s H E) (defBody st) F) :
    FnTop P w K mg base f (PySem.W.fnOf qual qual (defArgs st) (defBody st) (defScope st) .none kV doc pm an cdv ct) ps (spD TS K mg (defM ps.length N.length F)) := by
  refine ⟨fun s H us vs Q E e0 hb rv sp => ?_⟩
  obtain ⟨G, ds, rs, ok, post⟩ := sp
  unfold defM at post
  split at post
  case isFalse => exact post.elim
  rename_i hlen
  have hps : vs.length = ps.length := by rw [rs.len, hlen]
  have inK : K.In s.heap := e0.mod.kin.keeps fun b o e => (e0.bs b o e).1
  have noLim : s.heap.NoLimit := e0.mod.nolimit.keeps fun b o e => (e0.bs b o e).1
  refine codeAny_call_function hr.depth (inK _ _ lk) rfl S.co S.gen rfl (PySem.W.codeRec_of inK hcd) (hb _ _ _ _ (wpAny_newFunctionEnv_cells S.kind (fun y hy => ?_) fun env he s1 x => ?_))
  · exact (S.par y.1 (List.of_mem_zip hy).1).imp id fun q => ⟨q, PySem.W.cellsFrom_some _ _ _ (.inl q)⟩
  · subst he
    refine ⟨noLim.keeps x.toInCall.keep, codeAny_func ?_⟩
    have I := inv_start (CX := L2N.CX P w) (qual := qual) (f := f) (cd := cdv) (E := E) S hr.hd e0 hps rv x
    have hbody := body s H E (hr.deeper _) (fun cls d _ H => E cls d H) (frm0 N.length ds) (L2.start N vs) G H G H (fun _ => []) { nx := fun _ H' => Q .non H', rt := Q } (takes_of rfl rfl rfl rfl) (SI.start ok rs) (by
      revert post
      generalize F (frm0 N.length ds) = r_
      intro post
      induction r_ with
      | ok fl =>
        cases fl with
        | next ρ => exact fun σ' G' H' fp' _ s' => post .non G' H' s'.gr .non
        | ret rv => cases rv <;> exact post
        | brk ρ => exact post.elim
        | cont ρ => exact post.elim
      | exc c fs =>
        exact fun C d _ G' H' m g r => post C d G' H' m g r
      | bad =>
        exact post.elim
      | alt f_ ih => exact fun i => ih i (post i))
    refine wpAny_mono ((pss_wp _ _).run [] s1 (L2.start N vs) H _ I hbody) (fun fl s' hs => ?_) fun e s' hs => hs
    cases fl with
    | ret u =>
      obtain ⟨v, σ', H', J, r, q⟩ := hs
      exact ⟨v, H', J.os, J.bare, J.base, J.hok, r, q⟩
    | next =>
      obtain ⟨σ', H', J, q⟩ := hs
      exact ⟨V.non, H', J.os, J.bare, J.base, J.hok, rfl, q⟩
    | brk => exact hs.choose_spec.choose_spec.2.elim
    | cont => exact hs.choose_spec.choose_spec.2.elim
end
def H0 (K : PySem.W.Frag) (T : List Addr) (a : Addr) (ob : Obj) (ns : List Int) : Hp := fun b => if b ∈ T then some (.tbl #[]) else if b = a ∧ K.lookup a = none then some (.frz ob (.lst (ns.map V.int))) else none
section
variable {K : PySem.W.Frag} {T : List Addr} {a : Addr} {ob : Obj} {ns : List Int}
theorem H0_tab {b : Addr} (h : b ∈ T) : H0 K T a ob ns b = some (.tbl #[]) := if_pos h
theorem H0_cases (b : Addr) : (b ∈ T ∧ H0 K T a ob ns b = some (.tbl #[])) ∨ (b ∉ T ∧ b = a ∧ K.lookup a = none ∧ H0 K T a ob ns b = some (.frz ob (.lst (ns.map V.int)))) ∨ (b ∉ T ∧ H0 K T a ob ns b = none) := by
  by_cases h : b ∈ T
  · exact .inl ⟨h, if_pos h⟩
  · by_cases h2 : b = a ∧ K.lookup a = none
    · exact .inr (.inl ⟨h, h2.1, h2.2, (if_neg h).trans (if_pos h2)⟩)
    · exact .inr (.inr ⟨h, (if_neg h).trans (if_neg h2)⟩)
end
theorem call_top {P : Program} {w : World} {K : PySem.W.Frag} {mg mb : Str → Option Value} {fa a : Addr} {cs : List (Addr × Addr)} {fd : FuncData} {x : Str} {sp : Sp} {s₁ : Shared} {vs : List Value} {ns : List Int}
    (KX : K.In s₁.heap) (hns : s₁.heap.Ns mainGlobals mg) (hb : s₁.heap.Ns builtinsNs mb) (hbb : ∀ x : Str, x ≠ "__name__" → mb x = bootBuiltins x) (hlim : s₁.heap.NoLimit) (hg : s₁.gens = #[])
    (hT : ∀ p ∈ cs, PySem.W.CodeHd s₁.heap p.1 p.2 ∧ s₁.heap.get? p.2 = some (PySem.W.tabObj #[])) (nT : ∀ p ∈ cs, K.lookup p.2 = none)
    (hbm : ∃ (bm : Addr) (ob : Obj), mg "__builtins__" = some (.ref bm) ∧ bm ≠ builtinsNs ∧ s₁.heap.get? bm = some ob ∧ ob.cls = .type "module" ∧ ob.dict = some builtinsNs ∧ ob.data = .plain)
    (ha : s₁.heap.get? a = some { cls := .type "list", data := .seq vs.toArray }) (hi : IntsAre vs ns) (hl : ns.length ≤ sizeLine)
    (F : ∀ base : Heap, K.In base → base.Ns mainGlobals mg → (∀ p ∈ cs, GxR.TabB base mg p.1 p.2) → FnTop P w K mg base fa fd [x] sp) (hbind : ∀ (s : Shared) (u : Value), BindsTo s fd ⟨[u], []⟩ [(x, u)])
    (hsp : ∀ H : Hp, (∀ p ∈ cs, H p.2 = some (.tbl #[])) → SqL K H a (ns.map V.int) → sp [.ref a] H (fun v _ => v = .bl true) fun _ _ _ => False) :
    codeAny (model P w) callerA (.call (.ref fa) ⟨[.ref a], []⟩) (fun r s' => r = .ok (.ret (.bool true)) ∧ OldK s₁.heap s'.heap ∧ s'.os = s₁.os ∧ AllBare s'.gens) s₁ := by
  generalize hob : ({ cls := .type "list", data := .seq vs.toArray } : Obj) = ob at ha
  have tabAt : ∀ b ∈ cs.map (·.2), s₁.heap.get? b = some (PySem.W.tabObj #[]) := fun b h => by
    obtain ⟨p, hp, rfl⟩ := List.mem_map.mp h
    exact (hT p hp).2
  have aOut : a ∉ cs.map (·.2) := fun z => by
    have q := tabAt a z
    rw [ha, ← hob] at q
    cases congrArg Obj.data (Option.some.inj q)
  generalize hH : H0 K (cs.map (·.2)) a ob ns = H
  have cas := H0_cases (K := K) (T := cs.map (·.2)) (a := a) (ob := ob) (ns := ns)
  simp only [hH] at cas
  have tabs : ∀ p ∈ cs, H p.2 = some (.tbl #[]) := fun p hp => hH ▸ H0_tab (List.mem_map.mpr ⟨p, hp, rfl⟩)
  have off : ∀ {b : Addr} {o : Obj}, s₁.heap.get? b = some o → (∀ us n, o.data ≠ .seq us n) → o.data ≠ .fields #[] → H b = none := fun {b o} e n1 n2 => by
    rcases cas b with ⟨h, _⟩ | ⟨_, h, _⟩ | ⟨_, h⟩
    · rw [tabAt b h] at e
      exact (n2 (by rw [← Option.some.inj e])).elim
    · rw [h, ha] at e
      exact (n1 vs.toArray 0 (by rw [← Option.some.inj e, ← hob])).elim
    · exact h
  have under : ∀ {b : Addr} {m : Str → Option Value}, s₁.heap.Ns b m → (hidT s₁.heap H).Ns b m := fun {b m} ⟨o, es, ep, e, d, r⟩ =>
    ⟨o, es, ep, hidT_get e (off e (fun us n z => by rw [d] at z; cases z) fun z => by rw [d] at z; cases z), d, r⟩
  have kin : K.In (hidT s₁.heap H) := fun b o e => hidT_get (KX b o e) (by
    rcases cas b with ⟨h, _⟩ | ⟨_, h, n, _⟩ | ⟨_, h⟩
    · obtain ⟨p, hp, rfl⟩ := List.mem_map.mp h
      rw [nT p hp] at e
      cases e
    · rw [h, n] at e
      cases e
    · exact h)
  have md : L2.Mod K mg (hidT s₁.heap H) := ⟨kin, under hns, ⟨mb, under hb, hbb⟩, let ⟨mc, q1, q2⟩ := hlim; ⟨mc, under q1, q2⟩⟩
  have tb : ∀ p ∈ cs, GxR.TabB (hidT s₁.heap H) mg p.1 p.2 := fun p hp => by
    obtain ⟨hC, hP⟩ := hT p hp
    have ng : mainGlobals ≠ p.2 := fun z => by
      obtain ⟨o, es, ep, e, d, _⟩ := hns
      rw [z, hP] at e
      rw [← Option.some.inj e] at d
      cases d
    obtain ⟨o, us, file, tf, flags, tg, inF, text, tt, e1, r1, r2, r3, rest⟩ := hC
    have dat : ∀ {z : Data}, o.data = z → z = .fields us := fun z => by rw [← z, r2]
    refine ⟨⟨o, us, file, tf, flags, tg, inF, text, tt, hidT_get e1 (off e1 (fun us' n z => by cases dat z) fun z => ?_), r1, r2, r3, rest⟩, ?_, ng⟩
    · cases dat z
      simp at r3
    · obtain ⟨bm, oc, b1, b2, b3, b4, b5, b6⟩ := hbm
      refine ⟨bm, oc, b1, b2, fun q => ?_, fun q => ?_, hidT_get b3 (off b3 (fun us' n z => by rw [b6] at z; cases z) fun z => by rw [b6] at z; cases z), b4, b5, b6⟩
      · obtain ⟨o', es, ep, e, d, _⟩ := hns
        rw [← q, b3] at e
        rw [← Option.some.inj e, b6] at d
        cases d
      · rw [q, hP] at b3
        rw [← Option.some.inj b3] at b6
        cases b6
  have hS : SqL K H a (ns.map V.int) := by
    rcases cas a with ⟨h, _⟩ | ⟨_, _, _, h⟩ | ⟨_, h⟩
    · exact absurd h aOut
    · exact .inl (.inr ⟨ob, h⟩)
    · cases hk : K.lookup a with
      | none =>
        rw [← hH] at h
        have : H0 K (cs.map (·.2)) a ob ns a = some (.frz ob (.lst (ns.map V.int))) := (if_neg aOut).trans (if_pos ⟨rfl, hk⟩)
        rw [this] at h
        cases h
      | some o =>
        have e := KX a o hk
        rw [ha] at e
        have e := Option.some.inj e
        subst e
        subst hob
        exact .inr ⟨_, vs.toArray, _, hk, rfl, rfl, rfl, by rw [List.size_toArray, hi.length]; exact hl, by simpa using vals_ints hi⟩
  have hok : HOk P w H s₁.heap := fun b u e => by
    rcases cas b with ⟨h, q⟩ | ⟨_, h, _, q⟩ | ⟨_, q⟩
    · rw [q] at e
      cases e
      exact tabAt b h
    · rw [q] at e
      cases e
      subst h
      subst hob
      exact ⟨ha, by rw [List.length_map]; exact hl, vs, 0, vals_ints hi, ha⟩
    · rw [q] at e
      cases e
  have e0 : Env0 P w K mg (hidT s₁.heap H) callerA [] s₁ H := ⟨rfl, md, fun b o e => of_hidT e, Nat.le_of_eq (hidT_size _ _), trivial, fun b hb => (List.not_mem_nil (show b ∈ ([] : List Addr) from hb)).elim, hok, .of_eq hg⟩
  refine codeAny_mono ((F _ kin (under hns) tb).run s₁ H [.ref a] [.ref a] _ _ e0 (hbind s₁ (.ref a)) (.cons rfl .nil) (hsp H tabs hS)) fun r s' h => ?_
  cases r with
  | error e =>
    obtain ⟨_, _, _, _, _, _, _, _, _, _, _, _, z⟩ := h
    exact z.elim
  | ok fl =>
    cases fl with
    | ret u =>
      obtain ⟨v, H', os, bare, un, hok', rv, q⟩ := h
      subst q
      obtain rfl : u = Value.bool true := rv
      have tabIs : ∀ b ∈ cs.map (·.2), ∃ more : Array Value, s'.heap.get? b = some (PySem.W.tabObj more) := fun b hb => by
        obtain ⟨p, hp, rfl⟩ := List.mem_map.mp hb
        obtain ⟨more, z⟩ := un.tbls p.2 #[] (tabs p hp)
        exact ⟨_, hok' p.2 _ z⟩
      have same : ∀ b o, b ∉ cs.map (·.2) → s₁.heap.get? b = some o → s'.heap.get? b = some o := fun b o nb e => by
        rcases cas b with ⟨h, _⟩ | ⟨_, h, _, z⟩ | ⟨_, z⟩
        · exact absurd h nb
        · have z1 := (hok b _ z).1
          have z2 := (hok' b _ (un.frzs b ob _ z)).1
          rw [z1] at e
          rw [z2, e]
        · exact un.keep b o e z (fun y => nomatch y) (fun y => nomatch y)
      refine ⟨rfl, ⟨fun b o e => ?_, fun b o e => ?_⟩, os, bare⟩
      · by_cases hb : b ∈ cs.map (·.2)
        · obtain ⟨more, hm⟩ := tabIs b hb
          obtain ⟨p, hp, rfl⟩ := List.mem_map.mp hb
          rw [(hT p hp).2] at e
          have e := Option.some.inj e
          subst e
          exact .inr (.inl ⟨((hT p hp).1.tab (hT p hp).2).isCodeTable, rfl, #[], more, rfl, by rw [Array.empty_append]; exact hm⟩)
        · exact .inl (same b o hb e)
      · by_cases hb : b ∈ cs.map (·.2)
        · obtain ⟨more, hm⟩ := tabIs b hb
          exact ⟨_, hm⟩
        · exact ⟨o, same b o hb e⟩
    | _ => exact h.elim
theorem law_endG {l : PySem.W.OpenLaw} {q : Program} {loose : List Str} {XP : (Str → Option Value) → Heap → Prop} {YP : World → Heap → Prop} {d : DefRec} {K : Params → PySem.W.Frag} {x : Str}
    (hn : l.most = some 63) (hdf : d.params.defaults = []) (hY : ∀ (w : World) (h : Heap), YP w h → (K w.params).In h)
    (F : ∀ (w : World) (mg : Str → Option Value) (fa : Addr) (h : Heap), (K w.params).In h → h.Ns mainGlobals mg → mg d.name = some (.ref fa) →
      (∀ (y : Str) (dd : DefRec) (c P : Addr), (recsOf q).find? (fun e => e.name == y) = some dd → PySem.W.tabIn (K w.params) y = some (c, P) → PySem.W.CodeHd h c P ∧ h.get? P = some (PySem.W.tabObj #[])) →
      ∃ (fd : FuncData) (cs : List (Addr × Addr)), (∀ p ∈ cs, PySem.W.CodeHd h p.1 p.2 ∧ h.get? p.2 = some (PySem.W.tabObj #[])) ∧ (∀ p ∈ cs, (K w.params).lookup p.2 = none) ∧ (∀ (s : Shared) (u : Value), BindsTo s fd ⟨[u], []⟩ [(x, u)]) ∧
        ∀ base : Heap, (K w.params).In base → base.Ns mainGlobals mg → (∀ p ∈ cs, GxR.TabB base mg p.1 p.2) → FnTop l.prog w (K w.params) mg base fa fd [x] (spLawT (K w.params) (cs.map (·.2)))) :
    PySem.W.WalkO q loose XP YP l.row.toRowW d [] (fun f vs => PySem.call f vs) := by
  refine Att.attach_callB (n := 63) hn hdf fun w s₀ s₁ mg mb fa o pm cd doc a vs ns G Y ho hd hcd hmg hobj hints hlen hbits hg => ?_
  have KX := hY w _ Y
  obtain ⟨fd, cs, hT, nT, hb, hF⟩ := F w mg fa _ KX G.T.g hmg fun y dd c P h1 h2 => PySem.W.tab_of G.T KX h1 h2
  exact call_top KX G.T.g G.T.b G.T.builtins G.T.nolimit hg hT nT G.T.bmain hobj hints (Nat.le_trans hlen (by decide)) hF hb
    fun H hH hS => ⟨a, ns, rfl, hS, hlen, fun P hP => by
      obtain ⟨p, hp, rfl⟩ := List.mem_map.mp hP
      exact hH p hp, fun _ => rfl⟩
theorem top_imp {TS : TabList} {P : Program} {w : World} {K : PySem.W.Frag} {mg : Str → Option Value} {base : Heap} {f : Addr} {fd : FuncData} {ps : List Str} {m : List D → Res RV} (F : FnTop P w K mg base f fd ps (spD TS K mg m))
    (hm : ∀ ns : List Int, ns.length ≤ 63 → (m [scriptD ns]).All (· = .val (.bool true))) (hcs : TS.cs = [] := by rfl) : FnTop P w K mg base f fd ps (spLawT K TS.l) := by
  refine ⟨fun s H us vs Q E e0 hb rv sp => F.run s H us vs Q E e0 hb rv ?_⟩
  obtain ⟨a, ns, rfl, hs, hl, ht, q⟩ := sp
  refine ⟨noTb H, [scriptD ns], .cons (.lst (sql_noTb hs) (rps_ints ns)) .nil, ⟨noTb_ex H, ⟨fun P hP => TblOk.empty (ht P hP), fun _ h => by rw [hcs] at h; exact nomatch h⟩, fun _ _ h => (noTb_some.mp h).2⟩, ?_⟩
  have hm := hm ns hl
  revert hm
  generalize m [scriptD ns] = r
  intro hm
  induction r with
  | ok x =>
    rw [show x = .val (.bool true) from hm]
    intro v G' H' _ r
    cases r
    exact q H'
  | exc c fs => exact hm.elim
  | bad => exact hm.elim
  | alt f ih => exact fun i => ih i (hm i)
theorem law_finG {P : Program} {w : World} {K : PySem.W.Frag} {mg : Str → Option Value} {h : Heap} {st : Stmt} {fa : Addr} {x : Str} {k : Nat} {cs : List (Addr × Addr)} {N : List Str} {F : Frm → Res Fl} (X : K.In h) (G : h.Ns mainGlobals mg) (hfa : mg "law" = some (.ref fa)) (d : DefIn K "law" st) (b : BindOk "law" st [x])
    (hT : ∀ p ∈ cs, PySem.W.CodeHd h p.1 p.2 ∧ h.get? p.2 = some (PySem.W.tabObj #[])) (nT : ∀ p ∈ cs, K.lookup p.2 = none) (S : FnScope N [x] (defScope st)) (hr : Room (k + 1) callerA)
    (body : ∀ (base : Heap), (∀ p ∈ cs, GxR.TabB base mg p.1 p.2) → ∀ (f : Addr) (cdv : Value) (s : Shared) (H : Hp) (E : XK), Room k (callerA.deeper (envOfC "law" (defScope st) s.heap.objs.size f cdv)) → DSs (TabList.mk (cs.map (·.2)) P w) (cxOf (L2N.CX P w) P w K mg base N "law" (defScope st) f cdv callerA [] s H E) (defBody st) F)
    (hm : ∀ ns : List Int, ns.length ≤ 63 → (defM 1 N.length F [scriptD ns]).All (· = .val (.bool true))) :
    ∃ (fd : FuncData) (cs : List (Addr × Addr)), (∀ p ∈ cs, PySem.W.CodeHd h p.1 p.2 ∧ h.get? p.2 = some (PySem.W.tabObj #[])) ∧ (∀ p ∈ cs, K.lookup p.2 = none) ∧ (∀ (s : Shared) (u : Value), BindsTo s fd ⟨[u], []⟩ [(x, u)]) ∧
        ∀ base : Heap, K.In base → base.Ns mainGlobals mg → (∀ p ∈ cs, GxR.TabB base mg p.1 p.2) → FnTop P w K mg base fa fd [x] (spLawT K (cs.map (·.2))) := by
  obtain ⟨f, oc, od, an, sl, kV, doc, pm, cd, ct, h1, h2, h3, h4⟩ := d
  have e := hfa.symm.trans (PySem.W.mg_of X G h1)
  cases e
  exact ⟨_, cs, hT, nT, fun s u => .of_eq (b kV doc pm an cd ct [u] rfl), fun base _ _ ht => top_imp (fn_top hr h2 h3 S fun s H E hr => body base ht _ _ s H E hr) hm⟩
section
variable {TS : TabList} {X : Cx}
end
end Pyr
set_option Elab.async false
set_option autoImplicit false
set_option linter.all false
set_option maxRecDepth 100000
set_option maxHeartbeats 2000000
namespace Pyr
open PySem PySem.Spec PyProof.Rows L2 Evl
theorem hid_ex {α : Type} (x : α) : ∃ y, y = x := ⟨x, rfl⟩
noncomputable def hid {α : Type} (x : α) : α := (hid_ex x).choose
theorem hid_eq {α : Type} (x : α) : hid x = x := (hid_ex x).choose_spec
theorem Known.cast {TS : TabList} {P : Program} {w : World} {K : PySem.W.Frag} {mg : Str → Option Value} {base : Heap} {k : Nat} {x : Str} {ps : List Str} {m m' : List D → Res RV} (e : m = m') (h : Known TS P w K mg base k x ps m') : Known TS P w K mg base k x ps m := e ▸ h
def killF : List Nat → Frm → Frm
  | [], ρ => ρ
  | i :: is, ρ => killF is (ρ.set i .emp)
def sKill (is : List Nat) (F : Frm → Res Fl) : Frm → Res Fl := fun ρ => F (killF is ρ)
section
variable {TS : TabList} {K : PySem.W.Frag} {G_0 H_0 G H : Hp} {fp : Nat → List Addr}
theorem SI.kill1 {ρ : Frm} {σ : L2.St} (i : Nat) (s : SI TS K G_0 H_0 ρ σ G H fp) : SI TS K G_0 H_0 (ρ.set i .emp) σ G H fp := by
  have back : ∀ {j : Nat} {x : Sl}, x ≠ .emp → (ρ.set i .emp)[j]? = some x → ρ[j]? = some x := fun {j x} hx h => by
    rcases set_at h with ⟨_, e, _⟩ | ⟨_, h⟩
    · exact absurd e.symm hx
    · exact h
  exact ⟨s.gr, by rw [List.length_set]; exact s.len, fun j d h => s.val j d (back (by simp) h), fun j o h => s.own j o (back (by simp) h), fun j l o u h1 h2 => s.apart j l o u (back (by simp) h1) (back (by simp) h2), fun j o h => s.free j o (back (by simp) h)⟩
theorem SI.kill {σ : L2.St} : ∀ (is : List Nat) {ρ : Frm}, SI TS K G_0 H_0 ρ σ G H fp → SI TS K G_0 H_0 (killF is ρ) σ G H fp
  | [], _, s => s
  | i :: is, _, s => SI.kill is (s.kill1 i)
end
section
variable {TS : TabList} {X : Cx} {rest : List Stmt} {F : Frm → Res Fl} {pos : Pos}
theorem dss_kill (is : List Nat) (h : DSs TS X rest F) : DSs TS X rest (sKill is F) := .mk fun W ρ σ G_0 H_0 G H fp D tk s p => h W _ σ G_0 H_0 G H fp D tk (s.kill is) p
end
theorem run_kill0 {ρ : Frm} : killF [] ρ = ρ := rfl
theorem run_killS {i : Nat} {is : List Nat} {ρ : Frm} : killF (i :: is) ρ = killF is (ρ.set i .emp) := rfl
def Goes (F : Frm → Res Fl) (ρ ρ' : Frm) : Prop := F ρ = .ok (.next ρ') ∨ F ρ = .ok (.cont ρ')
theorem forF_go {t : Tg} {F : Frm → Res Fl} {d : D} {ds : List D} {ρ ρ1 ρ2 : Frm} (h : tgF t d ρ = .ok ρ1) (g : Goes F ρ1 ρ2) : forF t F (d :: ds) ρ = forF t F ds ρ2 := by
  show ((tgF t d ρ).bind fun ρ1 => (F ρ1).bind _) = _
  rw [h]
  show ((F ρ1).bind _) = _
  rcases g with g | g <;> rw [g] <;> rfl
end Pyr
set_option Elab.async false
set_option autoImplicit false
set_option linter.all false
set_option maxRecDepth 100000
set_option maxHeartbeats 2000000
namespace Pyr
open PySem PySem.Spec PyProof.Rows L2 Evl
theorem forF_exN {S : Type} {t : Tg} {F : Frm → Res Fl} (fr : S → Frm) (I : Nat → S → Prop) :
    ∀ (m lo : Nat) (s : S), I lo s → (∀ k s, lo ≤ k → k < lo + m → I k s → ∃ s' ρ1, tgF t (.int (k : Int)) (fr s) = .ok ρ1 ∧ Goes F ρ1 (fr s') ∧ I (k + 1) s') →
      ∃ s', forF t F (upto (lo : Int) m) (fr s) = .ok (.next (fr s')) ∧ I (lo + m) s'
  | 0, lo, s, hi, _ => ⟨s, rfl, hi⟩
  | m + 1, lo, s, hi, h => by
    obtain ⟨s1, ρ1, h1, h2, h3⟩ := h lo s (Nat.le_refl _) (by omega) hi
    obtain ⟨s2, e, i⟩ := forF_exN fr I m (lo + 1) s1 h3 fun k s hk hk2 => h k s (by omega) (by omega)
    rw [show lo + 1 + m = lo + (m + 1) by omega] at i
    refine ⟨s2, ?_, i⟩
    show forF t F (.int (lo : Int) :: upto ((lo : Int) + 1) m) (fr s) = _
    rw [forF_go h1 h2]
    exact e
theorem compF_en {α : Type} {t : Tg} {tt : En → Res Bool} {fe : En → Res D} {ρ : En} (e g : α → D) : ∀ xs : List α, (∀ x ∈ xs, ∃ ρ1, tgE t (e x) ρ = .ok ρ1 ∧ tt ρ1 = .ok true ∧ fe ρ1 = .ok (g x)) → compF t tt fe ρ (xs.map e) = .ok (xs.map g)
  | [], _ => rfl
  | x :: xs, h => by
    obtain ⟨ρ1, h1, h2, h3⟩ := h x List.mem_cons_self
    show (tgE t (e x) ρ).bind _ = _
    rw [h1]
    show (noX (tt ρ1)).bind _ = _
    rw [h2]
    show (noX (fe ρ1)).bind _ = _
    rw [h3]
    show (compF t tt fe ρ (xs.map e)).bind _ = _
    rw [compF_en e g xs fun y hy => h y (List.mem_cons_of_mem _ hy)]
    rfl
theorem lComp_ok {own : List Nat} {t : Tg} {fi : En → Res (List D)} {tt : En → Res Bool} {fe : En → Res D} {ρ : En} {ds : List D} {r : Res (List D)} (h : fi ρ = .ok ds) (hl : ds.length ≤ 100000) (hc : compF t tt fe (wipeE ρ own) ds = r) : lComp own t fi tt fe ρ = r := by
  unfold lComp
  rw [h, bind_ok, okL_ok hl, hc]
theorem eJoin_ok {fa fb : En → Res D} {ρ : En} {a : Str} {x : D} {r : Res D} (ha : fa ρ = .ok (.str a)) (hb : fb ρ = .ok x) (h : joinD a x = r) : eJoin fa fb ρ = r := by
  unfold eJoin
  rw [ha]
  show (fb ρ).bind _ = _
  rw [hb]
  exact h
theorem mapL_ok {f : En → Res (List D)} {ρ : En} {ds : List D} (h : f ρ = .ok ds) : (f ρ).map PyData.list = .ok (.list ds) := by rw [h]; rfl
theorem retL_ok {f : En → Res (List D)} {ρ : Frm} {ds : List D} (h : f (purE ρ) = .ok ds) : sRetL f ρ = .ok (.ret (.own ds)) := by unfold sRetL; rw [evL_ok h]; rfl
theorem upto_map (n : Nat) : ∀ lo : Nat, upto (lo : Int) n = (List.range' lo n).map fun k => .int (k : Int) := by
  induction n with
  | zero => exact fun _ => rfl
  | succ n ih =>
    intro lo
    show PyData.int (lo : Int) :: upto ((lo : Int) + 1) n = _
    rw [show ((lo : Int) + 1) = ((lo + 1 : Nat) : Int) by omega, ih (lo + 1)]
    rfl
theorem run_flI {i : Int} : flat0 (.int i) = true := rfl
theorem run_flB {b : Bool} : flat0 (.bool b) = true := rfl
theorem run_flS {x : Str} : flat0 (.str x) = true := rfl
theorem run_flN : flat0 .none = true := rfl
theorem run_fSu {xs ys : List D} : frzS (.own (.tup [xs, ys])) = some (.tuple [.list xs, .list ys]) := rfl
theorem run_pSu {dss : List (List D)} : purS (.own (.tup dss)) = none := rfl
mutual
def fD : Nat → D → Bool
  | _, .none => true
  | _, .bool _ => true
  | _, .int i => decide (i.natAbs < 2 ^ 64)
  | _, .str x => PyData.strOk x
  | 0, .list _ => false
  | n + 1, .list ds => fDs n ds
  | 0, .tuple _ => false
  | n + 1, .tuple ds => fDs n ds
  | _, .dict _ => false
def fDs : Nat → List D → Bool
  | _, [] => true
  | n, d :: ds => fD n d && fDs n ds
end
mutual
theorem fD_ok : ∀ (n : Nat) (d : D), fD n d = true → okD n d = true ∧ d.showable = true
  | _, .none, _ => ⟨rfl, rfl⟩
  | _, .bool _, _ => ⟨by simp [okD], rfl⟩
  | n, .int i, h => ⟨by simp [okD], by
    have h : i.natAbs < 2 ^ 64 := by simpa [fD] using h
    refine decide_eq_true ?_
    by_cases h0 : i.natAbs = 0
    · rw [h0]; decide
    · have := (Nat.log2_lt h0).mpr h
      omega⟩
  | n, .str x, h => ⟨by simpa [okD, fD] using h, rfl⟩
  | 0, .list _, h => by simp [fD] at h
  | n + 1, .list ds, h => by simpa [okD, PyData.showable] using fDs_ok n ds (by simpa [fD] using h)
  | 0, .tuple _, h => by simp [fD] at h
  | n + 1, .tuple ds, h => by simpa [okD, PyData.showable] using fDs_ok n ds (by simpa [fD] using h)
  | n, .dict _, h => by simp [fD] at h
theorem fDs_ok : ∀ (n : Nat) (ds : List D), fDs n ds = true → okDs n ds = true ∧ PyData.showableAll ds = true
  | _, [], _ => ⟨rfl, rfl⟩
  | n, d :: ds, h => by
    rw [fDs, Bool.and_eq_true] at h
    obtain ⟨a, b⟩ := fD_ok n d h.1
    obtain ⟨c, e⟩ := fDs_ok n ds h.2
    exact ⟨by rw [okDs, a, c]; rfl, by rw [PyData.showableAll, b, e]; rfl⟩
end
theorem fDs_all {n : Nat} : ∀ {ds : List D}, (∀ d ∈ ds, fD n d = true) → fDs n ds = true
  | [], _ => rfl
  | d :: ds, h => by
    rw [fDs, h d List.mem_cons_self, fDs_all fun e he => h e (List.mem_cons_of_mem _ he)]
    rfl
mutual
theorem fD_up : ∀ (n m : Nat) (d : D), n ≤ m → fD n d = true → fD m d = true
  | _, _, .none, _, _ => by simp [fD]
  | _, _, .bool _, _, _ => by simp [fD]
  | _, _, .int i, _, h => by simpa [fD] using h
  | _, _, .str x, _, h => by simpa [fD] using h
  | 0, _, .list _, _, h => by simp [fD] at h
  | n + 1, 0, .list ds, hm, h => absurd hm (by omega)
  | n + 1, m + 1, .list ds, hm, h => by
    simp only [fD] at h ⊢
    exact fDs_up n m ds (by omega) h
  | 0, _, .tuple _, _, h => by simp [fD] at h
  | n + 1, 0, .tuple ds, hm, h => absurd hm (by omega)
  | n + 1, m + 1, .tuple ds, hm, h => by
    simp only [fD] at h ⊢
    exact fDs_up n m ds (by omega) h
  | _, _, .dict _, _, h => by simp [fD] at h
theorem fDs_up : ∀ (n m : Nat) (ds : List D), n ≤ m → fDs n ds = true → fDs m ds = true
  | _, _, [], _, _ => rfl
  | n, m, d :: ds, hm, h => by
    rw [fDs, Bool.and_eq_true] at h ⊢
    exact ⟨fD_up n m d hm h.1, fDs_up n m ds hm h.2⟩
end
theorem fD_okd {n : Nat} {d : D} (h : fD n d = true) (hn : n ≤ 60) : okd d = true := (fD_ok 60 d (fD_up n 60 d hn h)).1
mutual
def wD : D → Nat
  | .none => 4
  | .bool _ => 5
  | .int i => i.natAbs.log2 + 2
  | .str x => 10 * x.length + 2
  | .list ds => wDs ds + 3
  | .tuple ds => wDs ds + 3
  | .dict _ => 0
def wDs : List D → Nat
  | [] => 0
  | d :: ds => wD d + 2 + wDs ds
end
theorem run_nx {α : Type} {a : α} : noX (.ok a) = Res.ok a := rfl
theorem run_dt {α : Type} {a : α} : det (.ok a) = Res.ok a := rfl
end Pyr
local macro_rules
  | `(tactic| dsimp! [$ts,*]) => `(tactic| simp -implicitDefEqProofs (disch := omega) only [Pyr.run_nx, Pyr.run_dt, Pyr.run_fSu, Pyr.run_pSu, Pyr.run_flI, Pyr.run_flB, Pyr.run_flS, Pyr.run_flN, Pyr.sSeq, Pyr.sKill, Pyr.run_kill0, Pyr.run_killS, Pyr.sIf, Pyr.sSet, Pyr.sSetL, Pyr.sRet, Pyr.sRetL, Pyr.sRetN, Pyr.sRetO, Pyr.sDrop, Pyr.sApp, Pyr.sNext, Pyr.sFrz, Pyr.sSetT, Pyr.tgF, Pyr.setsF, Pyr.evP, Pyr.evL, Pyr.evT, Pyr.bare, Pyr.eC, Pyr.e1, Pyr.e2, Pyr.eN, Pyr.aC, Pyr.a0, Pyr.eIf, Pyr.eAnd, Pyr.eOr, Pyr.eNot, Pyr.eChain, Pyr.tE, Pyr.tNotR, Pyr.tAndR, Pyr.tOrR, Pyr.eCall, Pyr.lCall, Pyr.iF, Pyr.iF2, Pyr.lN, Pyr.lF, Pyr.eFs, Pyr.jC, Pyr.j0, Pyr.eIxV, Pyr.ownI, Pyr.lAdd, Pyr.sExt, Pyr.sPop, Pyr.trF, Pyr.trsF, Pyr.Trs.len, Pyr.run_max2, Pyr.run_min2, Pyr.backD, Pyr.eSlice, Pyr.oNone, Pyr.oSome, Pyr.optI, Pyr.lSlice, Pyr.listD, Pyr.eB, Pyr.oneD, Pyr.oneL, Pyr.itemsD, Pyr.outR, Pyr.ownD, Pyr.RV.d, Pyr.tupD, Pyr.run_mul, Pyr.run_mulS, Pyr.run_add, Pyr.run_sub, Pyr.run_addS, Pyr.run_mod, Pyr.run_fdiv, Pyr.run_lt, Pyr.run_le, Pyr.run_gt, Pyr.run_ge, Pyr.run_lenL, Pyr.run_lenT, Pyr.run_lenS, Pyr.run_int, Pyr.run_bool, Pyr.run_truB, Pyr.run_truL, Pyr.run_pur1, Pyr.run_frz1, Pyr.run_pSv, Pyr.run_pSo, Pyr.run_pSe, Pyr.run_fSv, Pyr.run_fSo, Pyr.run_fSe, Pyr.run_pur0, Pyr.run_frz0, Pyr.run_v0n, Pyr.run_v0b, Pyr.run_v0i, Pyr.run_v0s, Pyr.run_v0l, Pyr.run_v0t, Pyr.run_v0o, Pyr.run_vN, Pyr.run_vS, Pyr.run_bad, Pyr.run_exc, Pyr.run_map, Pyr.run_okL, List.length_cons, List.length_nil, Pyr.bind_ok, List.set_cons_zero, List.set_cons_succ, List.getElem?_cons_zero, List.getElem?_cons_succ, Pyr.eqD_int, Pyr.eqD_str, Pyr.neD_int, Pyr.neD_str, if_true, if_false, Bool.not_true, Bool.not_false, Bool.false_eq_true, decide_true, decide_false, Pyr.run_atT0, Pyr.run_atT1, Pyr.run_atT2, Pyr.run_atT3, Pyr.run_atT4, Pyr.run_atL0, Pyr.run_atL1, Pyr.run_atL2, Pyr.run_atL3, Pyr.run_atL4, Pyr.isi_str_n, Pyr.isi_str_b, Pyr.isi_str_i, Pyr.isi_str_s, Pyr.isi_str_l, Pyr.isi_str_t, Pyr.isi_str_d, Pyr.isi_int_n, Pyr.isi_int_b, Pyr.isi_int_i, Pyr.isi_int_s, Pyr.isi_int_l, Pyr.isi_int_t, Pyr.isi_int_d, Pyr.isi_bool_n, Pyr.isi_bool_b, Pyr.isi_bool_i, Pyr.isi_bool_s, Pyr.isi_bool_l, Pyr.isi_bool_t, Pyr.isi_bool_d, Pyr.isi_list_n, Pyr.isi_list_b, Pyr.isi_list_i, Pyr.isi_list_s, Pyr.isi_list_l, Pyr.isi_list_t, Pyr.isi_list_d, Pyr.isi_tuple_n, Pyr.isi_tuple_b, Pyr.isi_tuple_i, Pyr.isi_tuple_s, Pyr.isi_tuple_l, Pyr.isi_tuple_t, Pyr.isi_tuple_d, Pyr.isi_dict_n, Pyr.isi_dict_b, Pyr.isi_dict_i, Pyr.isi_dict_s, Pyr.isi_dict_l, Pyr.isi_dict_t, Pyr.isi_dict_d, Nat.reduceAdd, Int.cast_ofNat_Int, Int.natCast_zero, Int.natCast_one, Int.reduceEq, Int.reduceLT, Int.reduceLE, Int.reduceAdd, Int.reduceSub, Int.reduceMul, Int.reduceNeg, Int.reduceNe, Nat.zero_add, reduceIte, decide_eq_true_eq, beq_self_eq_true, eq_self, Bool.true_or, Bool.or_true, Bool.and_true, Bool.true_and, Bool.false_or, Bool.or_false, Bool.and_false, Bool.false_and, $(⟨ts.elemsAndSeps⟩),*])

set_option Elab.async false
set_option autoImplicit false
set_option linter.all false
set_option maxRecDepth 100000
set_option maxHeartbeats 4000000
namespace Com2
noncomputable section
open PySem PySem.Spec PyProof.Rows L2 Evl Pyr 
abbrev eL (f : En → Res (List Pyr.D)) : En → Res Pyr.D := fun ρ => (f ρ).map .list
def B__law_draws_0 : Frm → Res Fl := (sSeq (sSet 5 (eC (.int 0)))
  (sSeq (sIf (tE boolD (e2 gtD (eN (oneD lenD) (aC (eVar 2) a0)) (eC (.int 0)))) (sSeq (sSet 7 (e2 modD (eN (oneD int2D) (aC (eVar 4) a0)) (eN (oneD lenD) (aC (eVar 2) a0))))
  (sIf (tE boolD (e2 geD (eIxV 2 (eVar 7)) (e2 powD (eC (.int 10)) (eC (.int 18))))) (sSeq (sSet 5 (e2 modD (eN (oneD int2D) (aC (eIxV 2 (eVar 7)) a0)) (eC (.int 1000))))
  (sPut 2 (eVar 7) (e2 fdivD (eIxV 2 (eVar 7)) (eC (.int 1000))))) (sSeq (sSet 8 (e2 modD (eN (oneD int2D) (aC (e2 addD (e2 addD (e2 mul2D (eIxV 2 (eVar 7)) (eC (.int 48271))) (e2 mul2D (eVar 4) (eC (.int 69621)))) (eC (.int 11))) a0)) (eC (.int 2147483647))))
  (sSeq (sSet 8 (e2 modD (eN (oneD int2D) (aC (e2 addD (e2 mul2D (eVar 8) (eC (.int 16807))) (eVar 7)) a0)) (eC (.int 2147483629))))
  (sSet 5 (e2 modD (eN (oneD int2D) (aC (e2 fdivD (eVar 8) (eC (.int 7))) a0)) (eC (.int 1000)))))))) sNext)
  (sKill [7, 8] (sSeq (sApp 3 (eVar 5))
  (sKill [4, 5, 7, 8] sNext)))))
def T__law_draws_3 : Frm → Res Fl := (sKill [4, 5, 7, 8] (sRetO 3))
def T__law_draws_2 : Frm → Res Fl := (sKill [0, 4, 5, 6, 7, 8] (sSeq (sForR (Tg.nm 4) (iF r1D (eVar 1)) B__law_draws_0)
  T__law_draws_3))
def T__law_draws_1 : Frm → Res Fl := (sSeq (sSetL 3 (lN a0))
  T__law_draws_2)
def F__law_draws : Frm → Res Fl := (sSeq (sSetL 2 (lComp [6] (Tg.nm 6) (iF walkD (eVar 0)) tYesR (eVar 6)))
  T__law_draws_1)
noncomputable def m__law_draws : List D → Res RV := hid (defM 2 9 F__law_draws)
theorem u__law_draws : m__law_draws = defM 2 9 F__law_draws := hid_eq _
def T__law_pool_6 : Frm → Res Fl := (sRetL (lComp [8] (Tg.nm 8) (iF r1D (eVar 2)) tYesR (e2 addD (e2 addD (eSlice (eVar 5) oNone (oSome (eVar 6))) (e2 atD (eVar 3) (e2 modD (eN (oneD int2D) (aC (e2 addD (eVar 1) (e2 mul2D (eVar 7) (eVar 8))) a0)) (eC (.int 36))))) (eSlice (eVar 5) (oSome (eVar 6)) oNone))))
def T__law_pool_5 : Frm → Res Fl := (sSeq (sSet 7 (e2 addD (eC (.int 1)) (e2 mul2D (eC (.int 4)) (e2 modD (eN (oneD int2D) (aC (e2 fdivD (eVar 1) (eC (.int 4))) a0)) (eC (.int 2))))))
  T__law_pool_6)
def T__law_pool_4 : Frm → Res Fl := (sSeq (sSet 6 (e2 modD (eN (oneD int2D) (aC (eVar 1) a0)) (e2 addD (eVar 4) (eC (.int 1)))))
  T__law_pool_5)
def T__law_pool_3 : Frm → Res Fl := (sSeq (sSet 5 (eJoin (eC (.str "")) (eL (lComp [8] (Tg.nm 8) (iF r1D (eVar 4)) tYesR (e2 atD (eVar 3) (e2 modD (eN (oneD int2D) (aC (e2 addD (eVar 0) (e2 mul2D (e2 mul2D (eC (.int 7)) (eVar 8)) (e2 addD (eC (.int 1)) (e2 modD (eN (oneD int2D) (aC (eVar 1) a0)) (eC (.int 3)))))) a0)) (eC (.int 36))))))))
  T__law_pool_4)
def T__law_pool_2 : Frm → Res Fl := (sSeq (sIf (tE boolD (e2 eqD (e2 modD (eN (oneD int2D) (aC (eVar 0) a0)) (eC (.int 9))) (eC (.int 8)))) (sSet 4 (eC (.int 11))) sNext)
  T__law_pool_3)
def T__law_pool_1 : Frm → Res Fl := (sSeq (sSet 4 (e2 modD (eN (oneD int2D) (aC (eVar 0) a0)) (eC (.int 4))))
  T__law_pool_2)
def F__law_pool : Frm → Res Fl := (sSeq (sSet 3 (eC (.str "abcdefghijklmnopqrstuvwxyz0123456789")))
  T__law_pool_1)
noncomputable def m__law_pool : List D → Res RV := hid (defM 3 9 F__law_pool)
theorem u__law_pool : m__law_pool = defM 3 9 F__law_pool := hid_eq _
def F__law_is_integer : Frm → Res Fl := (sRet (eAnd (e1 (isiD "int") (eVar 0)) (eNot (e1 (isiD "bool") (eVar 0)))))
noncomputable def m__law_is_integer : List D → Res RV := hid (defM 1 1 F__law_is_integer)
theorem u__law_is_integer : m__law_is_integer = defM 1 1 F__law_is_integer := hid_eq _
theorem pow18 : powD (.int 10) (.int 18) = .ok (.int 1000000000000000000) := rfl
theorem ixN_nat {n j : Nat} (h : j < n) : ixN n (j : Int) = some j := by
  unfold ixN
  simp only [Int.natCast_nonneg, if_true, Int.toNat_natCast, decide_true]
  first | exact if_pos h | (simp; omega)
theorem draw_step (b : Sl) (R Ds : List Int) (k : Nat) (hR : R.length ≤ 100000) (hD : Ds.length ≤ 50000) : ∃ (R' : List Int) (v : Int),
    B__law_draws_0 [.emp, b, .own (.lst (R.map .int)), .own (.lst (Ds.map .int)), .val (.int (k : Int)), .emp, .emp, .emp, .emp] = .ok (.next [.emp, b, .own (.lst (R'.map .int)), .own (.lst ((Ds ++ [v]).map .int)), .emp, .emp, .emp, .emp, .emp]) ∧ R'.length = R.length ∧ 0 ≤ v ∧ v < 1000 := by
  have lR : (R.map PyData.int).length = R.length := List.length_map _
  have lD : (Ds.map PyData.int).length = Ds.length := List.length_map _
  by_cases h0 : 0 < R.length
  · obtain ⟨j, ej, hj⟩ := fmod_nat (k : Int) h0
    have h0 : (0 : Int) < (R.length : Int) := by omega
    have hat : atD (.list (R.map PyData.int)) (.int (j : Int)) = .ok (.int R[j]) := at_list (by simp [hj])
    by_cases h1 : 1000000000000000000 ≤ R[j]
    · refine ⟨R.set j (R[j].fdiv 1000), R[j].fmod 1000, ?_, by rw [List.length_set], (fmod_in _ (by decide)).1, (fmod_in _ (by decide)).2⟩
      unfold B__law_draws_0
      dsimp! [eL, lR, lD, h0, ej, hat, pow18, h1, sPut, ixN_nat, List.map_append, List.map_cons, List.map_nil, List.map_set]
    · refine ⟨R, ((((((R[j] * 48271 + k * 69621 + 11).fmod 2147483647) * 16807 + j).fmod 2147483629).fdiv 7).fmod 1000), ?_, rfl, (fmod_in _ (by decide)).1, (fmod_in _ (by decide)).2⟩
      unfold B__law_draws_0
      dsimp! [eL, lR, lD, h0, ej, hat, pow18, h1, List.map_append, List.map_cons, List.map_nil]
  · refine ⟨R, 0, ?_, rfl, by decide, by decide⟩
    have h0 : ¬ (0 : Int) < (R.length : Int) := by omega
    unfold B__law_draws_0
    dsimp! [eL, lR, lD, h0, List.map_append, List.map_cons, List.map_nil]
def Dr (vs : List Int) : Prop := ∀ v ∈ vs, (0 : Int) ≤ v ∧ v < 1000
theorem draws_run (xs : List Int) (n : Nat) (hx : xs.length ≤ 63) (hn : n ≤ 1000) : ∃ vs : List Int, m__law_draws [.list (xs.map .int), .int (n : Int)] = .ok (.own (vs.map .int)) ∧ vs.length = n ∧ Dr vs := by
  have hr : r1D (.int (n : Int)) = .ok (upto 0 n) := r1D_nat (by show _ ≤ 100000; omega)
  have hc : lComp [6] (Tg.nm 6) (iF walkD (eVar 0)) tYesR (eVar 6) (purE [.val (.list (xs.map .int)), .val (.int (n : Int)), .emp, .emp, .emp, .emp, .emp, .emp, .emp]) = .ok (xs.map .int) :=
    lComp_ok (ds := xs.map .int) rfl (by rw [List.length_map]; omega) (compF_en PyData.int PyData.int xs fun x _ => ⟨_, rfl, rfl, rfl⟩)
  obtain ⟨⟨R', Ds⟩, e, i1, i2, i3⟩ := forF_exN (S := List Int × List Int) (t := Tg.nm 4) (F := B__law_draws_0) (fun s => [.emp, .val (.int (n : Int)), .own (.lst (s.1.map .int)), .own (.lst (s.2.map .int)), .emp, .emp, .emp, .emp, .emp])
    (fun k s => s.1.length = xs.length ∧ s.2.length = k ∧ Dr s.2) n 0 (xs, []) ⟨rfl, rfl, fun v h => nomatch h⟩ fun k s _ hk ⟨h1, h2, h3⟩ => by
      obtain ⟨R', v, q1, q2, q3, q4⟩ := draw_step (.val (.int (n : Int))) s.1 s.2 k (by omega) (by omega)
      refine ⟨(R', s.2 ++ [v]), _, rfl, .inl q1, q2.trans h1, by rw [List.length_append, h2]; rfl, fun u hu => ?_⟩
      rcases List.mem_append.mp hu with hu | hu
      · exact h3 u hu
      · rw [List.mem_singleton.mp hu]
        exact ⟨q3, q4⟩
  rw [Nat.zero_add] at i2
  refine ⟨Ds, ?_, i2, i3⟩
  rw [u__law_draws]
  rw [defM_eq (np := 2) rfl]
  show outR (F__law_draws [.val (.list (xs.map .int)), .val (.int (n : Int)), .emp, .emp, .emp, .emp, .emp, .emp, .emp]) = _
  unfold F__law_draws
  rw [seq_ok (setL_ok hc)]
  have e : forF (Tg.nm 4) B__law_draws_0 (upto 0 n) [.emp, .val (.int (n : Int)), .own (.lst (xs.map .int)), .own (.lst []), .emp, .emp, .emp, .emp, .emp] = .ok (.next [.emp, .val (.int (n : Int)), .own (.lst (R'.map .int)), .own (.lst (Ds.map .int)), .emp, .emp, .emp, .emp, .emp]) := e
  unfold T__law_draws_1
  rw [seq_ok (setL_ok (d := []) rfl)]
  unfold T__law_draws_2
  show outR (sSeq (sForR (Tg.nm 4) (iF r1D (eVar 1)) B__law_draws_0) T__law_draws_3 [.emp, .val (.int (n : Int)), .own (.lst (xs.map .int)), .own (.lst []), .emp, .emp, .emp, .emp, .emp]) = _
  rw [seq_ok ((forR_ok (ds := upto 0 n) ((iF_ok (x := .int (n : Int)) rfl).trans hr) (upto_flat _ _)).trans e)]
  rfl
end
end Com2
set_option Elab.async false
set_option autoImplicit false
set_option linter.all false
set_option maxRecDepth 100000
set_option maxHeartbeats 4000000
namespace Com2
noncomputable section
open PySem PySem.Spec PyProof.Rows L2 Evl Pyr 
abbrev lets : Str := "abcdefghijklmnopqrstuvwxyz0123456789"
def ofL (l : List Nat) : Str := ⟨l.toArray⟩
theorem ofL_tl (l : List Nat) : (ofL l).cps.toList = l := by simp [ofL]
theorem ofL_len (l : List Nat) : (ofL l).length = l.length := by rw [tl_len, ofL_tl]
theorem str_eq {x y : Str} (h : x.cps.toList = y.cps.toList) : x = y := TL.ext_tl h
theorem lets_is : lets.cps.toList = [97, 98, 99, 100, 101, 102, 103, 104, 105, 106, 107, 108, 109, 110, 111, 112, 113, 114, 115, 116, 117, 118, 119, 120, 121, 122, 48, 49, 50, 51, 52, 53, 54, 55, 56, 57] := by decide +kernel
theorem lets_len : lets.length = 36 := by decide +kernel
def lc (j : Nat) : Nat := lets.cps.toList.getD j 0
theorem lc_in {j : Nat} (h : j < 36) : lc j ∈ lets.cps.toList := by
  have : ∀ j < 36, decide (lc j ∈ lets.cps.toList) = true := by decide +kernel
  exact of_decide_eq_true (this j h)
theorem lc_inj {i j : Nat} (hi : i < 36) (hj : j < 36) (h : lc i = lc j) : i = j := by
  have : ∀ i < 36, ∀ j < 36, (lc i == lc j) = (i == j) := by decide +kernel
  have q := this i hi j hj
  rw [h, beq_self_eq_true] at q
  exact eq_of_beq q.symm
theorem lc_at {j : Nat} (h : j < 36) : atD (.str lets) (.int (j : Int)) = .ok (.str (ofL [lc j])) := by
  have hl : lets.cps.toList.length = 36 := by rw [← tl_len]; exact lets_len
  refine at_str ?_ (by rw [lets_len]; decide)
  unfold lc
  rw [List.getD_eq_getElem?_getD, List.getElem?_eq_getElem (by omega)]
  rfl
theorem let_at (n : Int) : ∃ j : Nat, n.fmod 36 = j ∧ j < 36 ∧ atD (.str lets) (.int (n.fmod 36)) = .ok (.str (ofL [lc j])) := by
  obtain ⟨j, e, h⟩ := fmod_nat n (m := 36) (by decide)
  have e : n.fmod 36 = (j : Int) := e
  exact ⟨j, e, h, by rw [e]; exact lc_at h⟩
def LetS (x : Str) : Prop := ∀ c ∈ x.cps.toList, c ∈ lets.cps.toList
def Wd (x : Str) : Prop := 1 ≤ x.length ∧ x.length ≤ 12 ∧ LetS x
theorem letS_ok {x : Str} (h : LetS x) : PyData.strOk x = true := by
  have : x.cps.toList.all (fun c => decide (c < 0x110000)) = true := List.all_eq_true.mpr fun c hc => by
    have a := h c hc
    have b : ∀ c ∈ lets.cps.toList, c < 0x110000 := by rw [lets_is]; decide +kernel
    exact decide_eq_true (b c a)
  rw [Array.all_toList] at this
  exact this
theorem wd_f {x : Str} (h : Wd x) (n : Nat) : fD n (.str x) = true := by
  have := letS_ok h.2.2
  cases n <;> simpa [fD] using this
theorem cut_front (x : Str) (p : Nat) : (cutS x none (some (p : Int))).cps.toList = x.cps.toList.take p := by
  have hl : x.length = x.cps.toList.length := tl_len x
  simp only [cutS, HT.sIx_none, HT.sIx_nat, List.drop_zero, Nat.sub_zero, List.toList_toArray]
  rw [hl, List.take_eq_take_iff]
  omega
theorem cut_back (x : Str) (p : Nat) : (cutS x (some (p : Int)) none).cps.toList = x.cps.toList.drop p := by
  have hl : x.length = x.cps.toList.length := tl_len x
  simp only [cutS, HT.sIx_none, HT.sIx_nat, List.toList_toArray]
  rw [hl, List.take_of_length_le (by rw [List.length_drop]; omega)]
  by_cases h : p ≤ x.cps.toList.length
  · rw [Nat.min_eq_left h]
  · rw [Nat.min_eq_right (by omega), List.drop_of_length_le (Nat.le_refl _), List.drop_of_length_le (by omega)]
theorem joinL_nil : ∀ l : List (List Nat), TL.joinL [] l = l.flatten
  | [] => rfl
  | [p] => by simp [TL.joinL]
  | p :: q :: r => by rw [TL.joinL, joinL_nil (q :: r)]; simp
theorem joinD_chars (cs : List Nat) (h : cs.length ≤ 1000) : joinD ("" : Str) (.list (cs.map fun c => .str (ofL [c]))) = .ok (.str (ofL cs)) := by
  have e1 : ∀ cs : List Nat, strsD (cs.map fun c => PyData.str (ofL [c])) = some (cs.map fun c => ofL [c]) := fun cs => by
    induction cs with
    | nil => rfl
    | cons c cs ih => show (strsD (cs.map fun c => PyData.str (ofL [c]))).map _ = _; rw [ih]; rfl
  show joinS "" (cs.map fun c => .str (ofL [c])) = _
  unfold joinS
  rw [e1]
  have e2 : ((cs.map fun c => ofL [c]).map (·.length)).sum = cs.length := by
    induction cs with
    | nil => rfl
    | cons c cs ih =>
      rw [List.map_cons, List.map_cons, List.sum_cons, ih (by simp at h; omega), List.length_cons, ofL_len]
      simp
      omega
  have e3 : ("" : Str).length = 0 := by decide +kernel
  show (if _ ≤ LIM then Res.ok (PyData.str (Txt.join "" (cs.map fun c => ofL [c]))) else .bad) = _
  rw [if_pos (by rw [e2, e3, Nat.mul_zero]; show _ ≤ 100000; omega)]
  congr 2
  refine str_eq ?_
  rw [ofL_tl, TL.join_eq]
  have : (Str.join "" (cs.map fun c => ofL [c])).cps.toList = _ := TL.tl_join "" (cs.map fun c => ofL [c])
  rw [this]
  show TL.joinL ("" : Str).cps.toList _ = _
  rw [show ("" : Str).cps.toList = [] from by decide +kernel, joinL_nil, List.map_map]
  clear this e1 e2 h
  induction cs with
  | nil => rfl
  | cons c cs ih => rw [List.map_cons, List.flatten_cons, ih]; simp [TL.tl, ofL]
theorem pool_run3 (a b : Int) (m : Nat) (hm : m ≤ 20) (ha : 0 ≤ a ∧ a < 1000) (hb : 0 ≤ b ∧ b < 2000) :
    ∃ ws : List Str, m__law_pool [.int a, .int b, .int (m : Int)] = .ok (.own (ws.map .str)) ∧ ws.length = m ∧ (∀ w ∈ ws, Wd w) ∧ ws.Nodup ∧ ∃ n, ∀ w ∈ ws, w.length = n := by
  obtain ⟨s, hs, es⟩ : ∃ s : Nat, s ≤ 11 ∧ T__law_pool_1 [.val (.int a), .val (.int b), .val (.int (m : Int)), .val (.str lets), .emp, .emp, .emp, .emp, .emp] = T__law_pool_3 [.val (.int a), .val (.int b), .val (.int (m : Int)), .val (.str lets), .val (.int (s : Int)), .emp, .emp, .emp, .emp] := by
    obtain ⟨j, ej, hj⟩ := fmod_nat a (m := 4) (by decide)
    have ej : a.fmod 4 = (j : Int) := ej
    by_cases h9 : a.fmod 9 = 8
    · refine ⟨11, Nat.le_refl _, ?_⟩
      unfold T__law_pool_1 T__law_pool_2
      dsimp! [eL, ej, h9]
    · refine ⟨j, by omega, ?_⟩
      unfold T__law_pool_1 T__law_pool_2
      dsimp! [eL, ej, h9]
  have hr : r1D (.int (s : Int)) = .ok ((List.range' 0 s).map fun k : Nat => .int (k : Int)) := (r1D_nat (by show _ ≤ 100000; omega)).trans (congrArg Res.ok (upto_map s 0))
  generalize hT : (List.range' 0 s).map (fun k : Nat => lc ((a + 7 * (k : Int) * (1 + b.fmod 3)).fmod 36).toNat) = T
  have lT : T.length = s := by rw [← hT, List.length_map, List.length_range']
  have inT : ∀ c ∈ T, c ∈ lets.cps.toList := fun c hc => by
    rw [← hT] at hc
    obtain ⟨k, _, rfl⟩ := List.mem_map.mp hc
    obtain ⟨j, e, h, _⟩ := let_at (a + 7 * (k : Int) * (1 + b.fmod 3))
    rw [e]
    exact lc_in h
  obtain ⟨p, ep, hp⟩ := fmod_nat b (m := s + 1) (by omega)
  obtain ⟨q, eq, hq⟩ : ∃ q : Nat, 1 + 4 * (b.fdiv 4).fmod 2 = (q : Int) ∧ (q = 1 ∨ q = 5) := by
    have := fmod_in (b.fdiv 4) (m := 2) (by decide)
    exact ⟨(1 + 4 * (b.fdiv 4).fmod 2).toNat, by omega, by omega⟩
  generalize hW : (List.range' 0 m).map (fun k : Nat => ofL (T.take p ++ [lc ((b + q * (k : Int)).fmod 36).toNat] ++ T.drop p)) = ws
  have lW : ws.length = m := by rw [← hW, List.length_map, List.length_range']
  refine ⟨ws, ?_, lW, fun w hw => ?_, ?_, s + 1, fun w hw => ?_⟩
  · rw [u__law_pool]
    rw [defM_eq (np := 3) rfl]
    show outR (F__law_pool [.val (.int a), .val (.int b), .val (.int (m : Int)), .emp, .emp, .emp, .emp, .emp, .emp]) = _
    unfold F__law_pool
    rw [seq_ok (set_ok (d := .str lets) rfl)]
    show outR (T__law_pool_1 [.val (.int a), .val (.int b), .val (.int (m : Int)), .val (.str lets), .emp, .emp, .emp, .emp, .emp]) = _
    have es : T__law_pool_1 [.val (.int a), .val (.int b), .val (.int (m : Int)), .val (.str lets), .emp, .emp, .emp, .emp, .emp] = _ := es
    rw [es]
    unfold T__law_pool_3
    rw [seq_ok (set_ok (d := .str (ofL T)) ?_)]
    · unfold T__law_pool_4
      rw [seq_ok (ρ' := [.val (.int a), .val (.int b), .val (.int (m : Int)), .val (.str lets), .val (.int (s : Int)), .val (.str (ofL T)), .val (.int (p : Int)), .emp, .emp]) (by
        have ep : b.fmod ((s : Int) + 1) = (p : Int) := ep
        dsimp! [eL, ep])]
      unfold T__law_pool_5
      rw [seq_ok (ρ' := [.val (.int a), .val (.int b), .val (.int (m : Int)), .val (.str lets), .val (.int (s : Int)), .val (.str (ofL T)), .val (.int (p : Int)), .val (.int (q : Int)), .emp]) (by dsimp! [eL, eq])]
      unfold T__law_pool_6
      have hr2 : r1D (.int (m : Int)) = .ok ((List.range' 0 m).map fun k : Nat => .int (k : Int)) := (r1D_nat (by show _ ≤ 100000; omega)).trans (congrArg Res.ok (upto_map m 0))
      rw [retL_ok (ds := ws.map .str)]
      · rfl
      · refine lComp_ok ((iF_ok (x := .int (m : Int)) rfl).trans hr2) (by rw [List.length_map, List.length_range']; omega) ?_
        rw [← hW, List.map_map]
        refine compF_en _ _ _ fun k hk => ⟨_, rfl, rfl, ?_⟩
        obtain ⟨j, e, h, at'⟩ := let_at (b + q * (k : Int))
        have hk := (List.mem_range'_1.mp hk).2
        rw [e] at at'
        have l1 : (ofL T).length = s := by rw [ofL_len, lT]
        have l2 : (cutS (ofL T) none (some (p : Int))).length ≤ 11 := by rw [tl_len, cut_front, ofL_tl, List.length_take]; omega
        have l3 : (cutS (ofL T) (some (p : Int)) none).length ≤ 11 := by rw [tl_len, cut_back, ofL_tl, List.length_drop]; omega
        have l4 : (ofL [lc j]).length = 1 := rfl
        have sl : ∀ lo hi, sliceD (.str (ofL T)) lo hi = .ok (.str (cutS (ofL T) lo hi)) := fun lo hi => okL_ok (by rw [l1]; show _ ≤ 100000; omega)
        have ee : cutS (ofL T) none (some (p : Int)) ++ ofL [lc j] ++ cutS (ofL T) (some (p : Int)) none = ofL (T.take p ++ [lc j] ++ T.drop p) := str_eq (by
          have a1 : ∀ x y : Str, (x ++ y).cps.toList = x.cps.toList ++ y.cps.toList := fun x y => TL.tl_append x y
          rw [a1, a1, cut_front, cut_back, ofL_tl, ofL_tl, ofL_tl])
        simp -implicitDefEqProofs (disch := first | omega | (simp only [Pyr.app_len]; omega)) only [Pyr.run_nx, Pyr.run_dt, Pyr.run_fSu, Pyr.run_pSu, Pyr.run_flI, Pyr.run_flB, Pyr.run_flS, Pyr.run_flN, Pyr.sSeq, Pyr.sKill, Pyr.run_kill0, Pyr.run_killS, Pyr.sIf, Pyr.sSet, Pyr.sSetL, Pyr.sRet, Pyr.sRetL, Pyr.sRetN, Pyr.sRetO, Pyr.sDrop, Pyr.sApp, Pyr.sNext, Pyr.sFrz, Pyr.sSetT, Pyr.tgF, Pyr.setsF, Pyr.evP, Pyr.evL, Pyr.evT, Pyr.bare, Pyr.eC, Pyr.e1, Pyr.e2, Pyr.eN, Pyr.aC, Pyr.a0, Pyr.eIf, Pyr.eAnd, Pyr.eOr, Pyr.eNot, Pyr.eChain, Pyr.tE, Pyr.tNotR, Pyr.tAndR, Pyr.tOrR, Pyr.eCall, Pyr.lCall, Pyr.iF, Pyr.iF2, Pyr.lN, Pyr.lF, Pyr.eFs, Pyr.jC, Pyr.j0, Pyr.eIxV, Pyr.ownI, Pyr.lAdd, Pyr.sExt, Pyr.sPop, Pyr.trF, Pyr.trsF, Trs.len, Pyr.run_max2, Pyr.run_min2, Pyr.backD, Pyr.eSlice, Pyr.oNone, Pyr.oSome, Pyr.optI, Pyr.lSlice, Pyr.listD, eL, Pyr.eB, Pyr.oneD, Pyr.oneL, Pyr.itemsD, Pyr.outR, Pyr.ownD, Pyr.RV.d, Pyr.tupD, Pyr.run_mul, Pyr.run_mulS, Pyr.run_add, Pyr.run_sub, Pyr.run_addS, Pyr.run_mod, Pyr.run_fdiv, Pyr.run_lt, Pyr.run_le, Pyr.run_gt, Pyr.run_ge, Pyr.run_lenL, Pyr.run_lenT, Pyr.run_lenS, Pyr.run_int, Pyr.run_bool, Pyr.run_truB, Pyr.run_truL, Pyr.run_pur1, Pyr.run_frz1, Pyr.run_pSv, Pyr.run_pSo, Pyr.run_pSe, Pyr.run_fSv, Pyr.run_fSo, Pyr.run_fSe, Pyr.run_pur0, Pyr.run_frz0, Pyr.run_v0n, Pyr.run_v0b, Pyr.run_v0i, Pyr.run_v0s, Pyr.run_v0l, Pyr.run_v0t, Pyr.run_v0o, Pyr.run_vN, Pyr.run_vS, Pyr.run_bad, Pyr.run_exc, Pyr.run_map, Pyr.run_okL, List.length_cons, List.length_nil, Pyr.bind_ok, List.set_cons_zero, List.set_cons_succ, List.getElem?_cons_zero, List.getElem?_cons_succ, Pyr.eqD_int, Pyr.eqD_str, Pyr.neD_int, Pyr.neD_str, if_true, if_false, Bool.not_true, Bool.not_false, Bool.false_eq_true, decide_true, decide_false, Pyr.run_atT0, Pyr.run_atT1, Pyr.run_atT2, Pyr.run_atT3, Pyr.run_atT4, Pyr.run_atL0, Pyr.run_atL1, Pyr.run_atL2, Pyr.run_atL3, Pyr.run_atL4, Pyr.isi_str_n, Pyr.isi_str_b, Pyr.isi_str_i, Pyr.isi_str_s, Pyr.isi_str_l, Pyr.isi_str_t, Pyr.isi_str_d, Pyr.isi_int_n, Pyr.isi_int_b, Pyr.isi_int_i, Pyr.isi_int_s, Pyr.isi_int_l, Pyr.isi_int_t, Pyr.isi_int_d, Pyr.isi_bool_n, Pyr.isi_bool_b, Pyr.isi_bool_i, Pyr.isi_bool_s, Pyr.isi_bool_l, Pyr.isi_bool_t, Pyr.isi_bool_d, Pyr.isi_list_n, Pyr.isi_list_b, Pyr.isi_list_i, Pyr.isi_list_s, Pyr.isi_list_l, Pyr.isi_list_t, Pyr.isi_list_d, Pyr.isi_tuple_n, Pyr.isi_tuple_b, Pyr.isi_tuple_i, Pyr.isi_tuple_s, Pyr.isi_tuple_l, Pyr.isi_tuple_t, Pyr.isi_tuple_d, Pyr.isi_dict_n, Pyr.isi_dict_b, Pyr.isi_dict_i, Pyr.isi_dict_s, Pyr.isi_dict_l, Pyr.isi_dict_t, Pyr.isi_dict_d, Nat.reduceAdd, Int.cast_ofNat_Int, Int.natCast_zero, Int.natCast_one, Int.reduceEq, Int.reduceLT, Int.reduceLE, Int.reduceAdd, Int.reduceSub, Int.reduceMul, Int.reduceNeg, Int.reduceNe, Nat.zero_add, reduceIte, decide_eq_true_eq, beq_self_eq_true, eq_self, Bool.true_or, Bool.or_true, Bool.and_true, Bool.true_and, Bool.false_or, Bool.or_false, Bool.and_false, Bool.false_and, e, at', wipeE, tgE, sl, optI, l2, l3, l4, ee, Int.toNat_natCast, Function.comp]
    · refine eJoin_ok rfl (mapL_ok (lComp_ok ((iF_ok (x := .int (s : Int)) rfl).trans hr) (by rw [List.length_map, List.length_range']; omega) (compF_en _ (fun k : Nat => .str (ofL [lc ((a + 7 * (k : Int) * (1 + b.fmod 3)).fmod 36).toNat])) _ fun k hk => ⟨_, rfl, rfl, ?_⟩))) ?_
      · obtain ⟨j, e, h, q⟩ := let_at (a + 7 * (k : Int) * (1 + b.fmod 3))
        have hk := (List.mem_range'_1.mp hk).2
        have b3 := fmod_in b (m := 3) (by decide)
        rw [e] at q ⊢
        dsimp! [eL, e, q, wipeE, tgE, Int.toNat_natCast]
      · have : joinD ("" : Str) (.list (T.map fun c => .str (ofL [c]))) = .ok (.str (ofL T)) := joinD_chars T (by omega)
        rw [← hT, List.map_map] at this
        rw [← hT]
        exact this
  · rw [← hW] at hw
    obtain ⟨k, _, rfl⟩ := List.mem_map.mp hw
    obtain ⟨j, e, h, _⟩ := let_at (b + q * (k : Int))
    rw [e, Int.toNat_natCast]
    refine ⟨?_, ?_, fun c hc => ?_⟩
    · rw [ofL_len, List.length_append, List.length_append]
      simp only [List.length_cons, List.length_nil]
      omega
    · rw [ofL_len, List.length_append, List.length_append, List.length_take, List.length_drop]
      simp only [List.length_cons, List.length_nil]
      omega
    · rw [ofL_tl] at hc
      rcases List.mem_append.mp hc with hc | hc
      · rcases List.mem_append.mp hc with hc | hc
        · exact inT c (List.mem_of_mem_take hc)
        · rw [List.mem_singleton.mp hc]
          exact lc_in h
      · exact inT c (List.mem_of_mem_drop hc)
  · rw [← hW]
    refine List.Pairwise.map _ (fun i k (hik : i < k ∧ k < 20) z => ?_) (R := fun i k : Nat => i < k ∧ k < 20) ?_
    · have z := congrArg (fun x : Str => x.cps.toList) z
      simp only [ofL_tl, List.append_assoc] at z
      have z := List.append_cancel_left z
      obtain ⟨ji, ei, hi, _⟩ := let_at (b + q * (i : Int))
      obtain ⟨jk, ek, hk, _⟩ := let_at (b + q * (k : Int))
      rw [ei, ek, Int.toNat_natCast, Int.toNat_natCast] at z
      have := lc_inj hi hk (List.cons.inj (show lc ji :: _ = lc jk :: _ from z)).1
      subst this
      have d1 := Int.fmod_add_mul_fdiv (b + q * (i : Int)) 36
      have d2 := Int.fmod_add_mul_fdiv (b + q * (k : Int)) 36
      generalize (b + q * (i : Int)).fdiv 36 = u at d1
      generalize (b + q * (k : Int)).fdiv 36 = v at d2
      rcases hq with rfl | rfl <;> omega
    · refine List.Pairwise.imp_of_mem (fun {i k} hi hk h => ⟨h, by have := (List.mem_range'_1.mp hk).2; omega⟩) List.pairwise_lt_range'
  · rw [← hW] at hw
    obtain ⟨k, _, rfl⟩ := List.mem_map.mp hw
    rw [ofL_len, List.length_append, List.length_append, List.length_take, List.length_drop]
    simp only [List.length_cons, List.length_nil]
    omega
theorem pool_run2 (a b : Int) (m : Nat) (hm : m ≤ 20) (ha : 0 ≤ a ∧ a < 1000) (hb : 0 ≤ b ∧ b < 1000) :
    ∃ ws : List Str, m__law_pool [.int a, .int b, .int (m : Int)] = .ok (.own (ws.map .str)) ∧ ws.length = m ∧ (∀ w ∈ ws, Wd w) ∧ ws.Nodup ∧ ∃ n, ∀ w ∈ ws, w.length = n := pool_run3 a b m hm ha ⟨hb.1, by omega⟩
theorem pool_run (a b : Int) (m : Nat) (hm : m ≤ 20) (ha : 0 ≤ a ∧ a < 1000) (hb : 0 ≤ b ∧ b < 1000) :
    ∃ ws : List Str, m__law_pool [.int a, .int b, .int (m : Int)] = .ok (.own (ws.map .str)) ∧ ws.length = m ∧ (∀ w ∈ ws, Wd w) ∧ ws.Nodup :=
  let ⟨ws, h1, h2, h3, h4, _⟩ := pool_run2 a b m hm ha hb
  ⟨ws, h1, h2, h3, h4⟩
end
end Com2
set_option Elab.async false
set_option autoImplicit false
set_option linter.all false
set_option maxRecDepth 100000
set_option maxHeartbeats 2000000
namespace Pyr
open PySem PySem.Spec PyProof.Rows L2 Evl
mutual
def noB : D → Bool
  | .none => true
  | .bool _ => false
  | .int _ => true
  | .str _ => true
  | .list ds => noBs ds
  | .tuple ds => noBs ds
  | .dict _ => false
def noBs : List D → Bool
  | [] => true
  | d :: ds => noB d && noBs ds
end
mutual
theorem eqv_iff : ∀ x y : D, noB x = true → noB y = true → (PyData.eqv x y = true ↔ x = y)
  | .none, y, _, hy => by cases y <;> simp [PyData.eqv]
  | .bool _, _, hx, _ => by simp [noB] at hx
  | .int i, y, _, hy => by cases y <;> simp [PyData.eqv] <;> simp [noB] at hy
  | .str a, y, _, hy => by cases y <;> simp [PyData.eqv]
  | .list xs, y, hx, hy => by
    cases y with
    | list ys =>
      have := eqvs_iff xs ys (by simpa [noB] using hx) (by simpa [noB] using hy)
      simpa [PyData.eqv] using this
    | _ => simp [PyData.eqv]
  | .tuple xs, y, hx, hy => by
    cases y with
    | tuple ys =>
      have := eqvs_iff xs ys (by simpa [noB] using hx) (by simpa [noB] using hy)
      simpa [PyData.eqv] using this
    | _ => simp [PyData.eqv]
  | .dict _, _, hx, _ => by simp [noB] at hx
theorem eqvs_iff : ∀ xs ys : List D, noBs xs = true → noBs ys = true → (PyData.eqvAll xs ys = true ↔ xs = ys)
  | [], [], _, _ => by simp [PyData.eqvAll]
  | [], _ :: _, _, _ => by simp [PyData.eqvAll]
  | _ :: _, [], _, _ => by simp [PyData.eqvAll]
  | x :: xs, y :: ys, hx, hy => by
    rw [noBs, Bool.and_eq_true] at hx hy
    rw [PyData.eqvAll, Bool.and_eq_true, eqv_iff x y hx.1 hy.1, eqvs_iff xs ys hx.2 hy.2, List.cons.injEq]
end
structure Enc {α : Type} (en : α → D) (ok : α → Prop) : Prop where
  inj : ∀ x y, en x = en y → x = y
  nb : ∀ x, noB (en x) = true
  fd : ∀ x, ok x → fD 50 (en x) = true
section
variable {α : Type} {en : α → D} {ok : α → Prop} (E : Enc en ok)
include E
theorem Enc.eqv (x y : α) [Decidable (x = y)] : PyData.eqv (en x) (en y) = decide (x = y) := by
  rw [Bool.eq_iff_iff, eqv_iff _ _ (E.nb x) (E.nb y), decide_eq_true_eq]
  exact ⟨fun h => E.inj x y h, fun h => by rw [h]⟩
theorem Enc.okd {x : α} (h : ok x) : okd (en x) = true := fD_okd (E.fd x h) (by decide)
theorem Enc.okl {xs : List α} (h : ∀ x ∈ xs, ok x) : Pyr.okd (.list (xs.map en)) = true := by
  refine fD_okd (n := 51) ?_ (by decide)
  show fDs 50 (xs.map en) = true
  refine fDs_all fun d hd => ?_
  obtain ⟨x, hx, rfl⟩ := List.mem_map.mp hd
  exact E.fd x (h x hx)
theorem Enc.any (xs : List α) (y : α) [Decidable (y ∈ xs)] : (xs.map en).any (fun z => PyData.eqv z (en y)) = decide (y ∈ xs) := by
  rw [Bool.eq_iff_iff, List.any_eq_true, decide_eq_true_eq]
  constructor
  · rintro ⟨d, hd, h⟩
    obtain ⟨x, hx, rfl⟩ := List.mem_map.mp hd
    have h := E.inj _ _ ((eqv_iff _ _ (E.nb x) (E.nb y)).mp h)
    exact h ▸ hx
  · intro h
    exact ⟨en y, List.mem_map.mpr ⟨y, h, rfl⟩, (eqv_iff _ _ (E.nb y) (E.nb y)).mpr rfl⟩
theorem Enc.inD {xs : List α} {y : α} [Decidable (y ∈ xs)] (hxs : ∀ x ∈ xs, ok x) (hy : ok y) : Pyr.inD (en y) (.list (xs.map en)) = .ok (.bool (decide (y ∈ xs))) := by
  have e : Pyr.inD (en y) (.list (xs.map en)) = if Pyr.okd (en y) && Pyr.okd (.list (xs.map en)) then .ok (.bool ((xs.map en).any fun z => PyData.eqv z (en y))) else .bad := by cases en y <;> rfl
  rw [e, E.okd hy, E.okl hxs, E.any]
  rfl
theorem Enc.notInD {xs : List α} {y : α} [Decidable (y ∈ xs)] (hxs : ∀ x ∈ xs, ok x) (hy : ok y) : Pyr.notInD (en y) (.list (xs.map en)) = .ok (.bool (!decide (y ∈ xs))) := by
  unfold Pyr.notInD
  rw [E.inD hxs hy]
  rfl
end
end Pyr
set_option Elab.async false
set_option autoImplicit false
set_option linter.all false
set_option maxRecDepth 100000
set_option maxHeartbeats 4000000
namespace Com2
noncomputable section
open PySem PySem.Spec PyProof.Rows L2 Evl Pyr 
abbrev Tb := Str × Nat × Option Nat
abbrev Ft := Str × List Str
def ftD (f : Ft) : Pyr.D := .tuple [.str f.1, .tuple (f.2.map .str)]
theorem strE : Enc PyData.str Wd := ⟨fun x y h => by injection h, fun _ => rfl, fun x h => wd_f h 50⟩
def plc (S : List Tb) (x : Str) : Option Nat := (List.range' 0 S.length).find? fun k => decide (S[k]?.map (·.1) = some x)
end
end Com2
set_option Elab.async false
set_option autoImplicit false
set_option linter.all false
set_option maxRecDepth 100000
set_option maxHeartbeats 4000000
namespace Com2
noncomputable section
open PySem PySem.Spec PyProof.Rows L2 Evl Pyr 
def prD (p : Nat × List Str) : Pyr.D := .tuple [.int (p.1 : Int), .tuple (p.2.map .str)]
def keyP (S : List Tb) (f : Ft) : Nat × List Str := ((plc S f.1).getD S.length, f.2)
def dstep {α : Type} [DecidableEq α] (acc : List α) (f : α) : List α := if f ∈ acc then acc else acc ++ [f]
def ddp {α : Type} [DecidableEq α] (xs : List α) : List α := xs.foldl dstep []
end
end Com2
set_option Elab.async false
set_option autoImplicit false
set_option linter.all false
set_option maxRecDepth 100000
set_option maxHeartbeats 4000000
namespace Pyr
open PySem PySem.Spec PyProof.Rows L2 Evl
section
variable {K : PySem.W.Frag} {G : Hp}
end
section
variable {X : Cx}
end
end Pyr
set_option Elab.async false
set_option autoImplicit false
set_option linter.all false
set_option maxRecDepth 100000
set_option maxHeartbeats 4000000
namespace Pyr
open PySem PySem.Spec PyProof.Rows L2 Evl
structure Keyed (K : PySem.W.Frag) (H : Hp) (ps : List (Addr × NestedKey)) : Prop where
  ex : ∃ ds : List D, Rps K H (ps.map fun e => V.ref e.1) ds ∧ nks ds = ps.map (·.2) ∧ keysB ds = true ∧ ∀ d ∈ ds, d.depth ≤ 8
theorem Keyed.at {X : Cx} {pins : List (Addr × Obj)} {σ : L2.St} {H : Hp} {s : Shared} {ps : List (Addr × NestedKey)} (I : Inv X pins σ H s) (k : Keyed X.K H ps) : ∀ e ∈ ps, KAt s.heap e.2 e.1 := by
  obtain ⟨ds, r, hk, hb, hd⟩ := k.ex
  exact keys_in I r hk hb hd
section
variable {X : Cx}
end
end Pyr
set_option Elab.async false
set_option autoImplicit false
set_option linter.all false
set_option maxRecDepth 100000
set_option maxHeartbeats 4000000
namespace Pyr
open PySem PySem.Spec PyProof.Rows L2 Evl
section
variable {TS : TabList} {X : Cx} {tg iter elt : Expr} {fi : En → Res (List D)} {tt : En → Res Bool} {fe : En → Res D} {ifs : List Expr} {pos : Pos} {t : Tg} {scope : Scope} {own : List (Str × Nat)}
end
end Pyr
set_option Elab.async false
set_option autoImplicit false
set_option linter.all false
set_option maxRecDepth 100000
set_option maxHeartbeats 4000000
namespace Com2
noncomputable section
open PySem PySem.Spec PyProof.Rows L2 Evl Pyr 
theorem int_at {vs : List Int} {k : Nat} (hk : k < vs.length) : atD (.list (vs.map .int)) (.int (k : Int)) = .ok (.int vs[k]) := at_list (by simp [hk])
end
end Com2
set_option Elab.async false
set_option autoImplicit false
set_option linter.all false
set_option maxRecDepth 100000
set_option maxHeartbeats 4000000
namespace Com2
noncomputable section
open PySem PySem.Spec PyProof.Rows L2 Evl Pyr 
def kF (S : List Tb) (f : Ft) : Pyr.D := prD (keyP S f)
end
end Com2
set_option Elab.async false
set_option autoImplicit false
set_option linter.all false
set_option maxRecDepth 100000
set_option maxHeartbeats 4000000
namespace Com2
noncomputable section
open PySem PySem.Spec PyProof.Rows L2 Evl Pyr 
def lfD (fs : List Ft) : Pyr.D := .list (fs.map ftD)
def chD (c : List Ft × List Ft) : Pyr.D := .tuple [lfD c.1, lfD c.2]
end
end Com2
set_option Elab.async false
set_option autoImplicit false
set_option linter.all false
set_option maxRecDepth 100000
set_option maxHeartbeats 4000000
namespace Pyr
open PySem PySem.Spec PyProof.Rows L2 Evl
end Pyr
set_option Elab.async false
set_option autoImplicit false
set_option linter.all false
set_option maxRecDepth 100000
set_option maxHeartbeats 4000000
namespace Pyr
open PySem PySem.Spec PyProof.Rows L2 Evl
def entK (e : Int × Value) : Option Key := match e.2 with
  | .int i _ => some (.inl i)
  | .str x _ => some (.inr x)
  | _ => none
structure ScR (P : Program) (w : World) (h : Heap) (a : Addr) (L : List Key) (es : Array (Int × Value)) (ep : Nat) (t : SetTable) : Prop where
  here : ∃ o, h.get? a = some o ∧ o.ExactSet ∧ o.data = .set es ep t
  cont : es.toList.map entK = L.map some
  hsh : ∀ e ∈ es.toList, ∀ k, entK e = some k → e.1 = (mixKind P w).hash k
  once : L.Nodup
  fit : t.fits es.size = true
  few : L.length < 4000
  ris : Ris t.place.toList
  made : w.params.followText "set-order" = true ∨ t.led = true
structure ScS (P : Program) (w : World) (h : Heap) (a : Addr) (ks : List Key) : Prop where
  ex : ∃ L es ep t, ScR P w h a L es ep t ∧ ∀ k, k ∈ L ↔ k ∈ ks
section
variable {P : Program} {w : World} {h h' : Heap} {a : Addr} {ks L : List Key} {es : Array (Int × Value)} {ep : Nat} {t : SetTable}
theorem ScS.keep (x : ScS P w h a ks) (k : ∀ o, h.get? a = some o → h'.get? a = some o) : ScS P w h' a ks := by
  obtain ⟨L, es, ep, t, R, m⟩ := x.ex
  obtain ⟨o, ho, q⟩ := R.here
  exact ⟨L, es, ep, t, ⟨⟨o, k o ho, q⟩, R.cont, R.hsh, R.once, R.fit, R.few, R.ris, R.made⟩, m⟩
def scO (P : Program) (w : World) (a : Addr) (ks : List Key) : HO := .ext fun h => ScS P w h a ks
variable {A : Around} {E : Value → Shared → Prop} {s : Shared}
end
end Pyr
set_option Elab.async false
set_option autoImplicit false
set_option linter.all false
set_option maxRecDepth 100000
set_option maxHeartbeats 4000000
namespace Pyr
open PySem PySem.Spec PyProof.Rows L2 Evl
section
variable {P : Program} {w : World} {A : Around} {E : Value → Shared → Prop} {s : Shared} {a : Addr} {ks : List Key}
end
section
variable {X : Cx}
end
end Pyr
set_option Elab.async false
set_option autoImplicit false
set_option linter.all false
set_option maxRecDepth 100000
set_option maxHeartbeats 4000000
namespace Pyr
open PySem PySem.Spec PyProof.Rows L2 Evl
section
variable {elt t0 i0 t1 i1 : Expr} {c0 c1 : List Expr} {scope : Scope} {pos : Pos} {it acc : Value} {env : Env}
variable {prog : Program} {w : World} {A : Around} {R : Result → Shared → Prop} {s : Shared}
end
end Pyr
set_option Elab.async false
set_option autoImplicit false
set_option linter.all false
set_option maxRecDepth 100000
set_option maxHeartbeats 8000000
namespace Pyr
open PySem PySem.Spec PyProof.Rows L2 Evl
section
variable {X : Cx}
end
end Pyr
set_option Elab.async false
set_option autoImplicit false
set_option linter.all false
set_option maxRecDepth 100000
set_option maxHeartbeats 8000000
namespace Pyr
open PySem PySem.Spec PyProof.Rows L2 Evl
def scK : D → Option Key
  | .int i => some (.inl i)
  | .str x => some (.inr x)
  | _ => none
def keysL (ds : List D) : List Key := ds.filterMap scK
section
variable {X : Cx}
end
end Pyr
set_option Elab.async false
set_option autoImplicit false
set_option linter.all false
set_option maxRecDepth 100000
set_option maxHeartbeats 8000000
namespace Pyr
open PySem PySem.Spec PyProof.Rows L2 Evl
theorem keysL_app (xs ys : List D) : keysL (xs ++ ys) = keysL xs ++ keysL ys := by
  unfold keysL
  rw [List.filterMap_append]
section
variable {TS : TabList} {X : Cx} {l : Addr} {G1 H1 : Hp}
structure Hold (TS : TabList) (X : Cx) (G1 H1 : Hp) (l : Addr) (pre : List D) (G H : Hp) : Prop where
  gr : Gr TS G1 H1 G H
  out : G l = none
  at' : H l = some (scO X.prog X.w l (keysL pre))
theorem Hold.grow {pre : List D} {G H G' H' : Hp} (x : Hold TS X G1 H1 l pre G H) (g : Gr TS G H G' H') : Hold TS X G1 H1 l pre G' H' := by
  refine ⟨x.gr.trans g, ?_, g.h.same l _ x.at' fun _ e => nomatch e⟩
  cases q : G' l with
  | none => rfl
  | some w =>
    rcases g.nw l (by rw [q]; simp) with c | c
    · exact absurd x.out c
    · rw [x.at'] at c
      cases c
theorem Hold.put {pre : List D} {d : D} {k : Key} {G H : Hp} (x : Hold TS X G1 H1 l pre G H) (hk : scK d = some k) (hD : H1 l = none) : Hold TS X G1 H1 l (pre ++ [d]) G (upd H l (scO X.prog X.w l (keysL pre ++ [k]))) := by
  have gg := x.gr
  refine ⟨⟨gg.g, ⟨fun b w hb n => ?_, fun b hb => gg.h.old b (upd_none hb), fun P t => (gg.h.tb P t).upd x.at' rfl⟩, gg.nw, ⟨fun b w hb => ?_, gg.ok.tb.upd x.at' rfl, gg.ok.nt⟩⟩, x.out, ?_⟩
  · rw [upd_ne (ne_of_none hb hD)]
    exact gg.h.same b w hb n
  · rw [upd_ne (ne_of_none hb x.out)]
    exact gg.ok.le b w hb
  · rw [keysL_app, show keysL [d] = [k] by unfold keysL; rw [List.filterMap_cons_some hk]; rfl]
    exact upd_same
end
section
variable {TS : TabList} {X : Cx} {tg iter tg1 iter1 elt : Expr} {fi fi1 : En → Res (List D)} {tt tt1 : En → Res Bool} {fe : En → Res D} {ifs ifs1 : List Expr} {pos : Pos} {t t1 : Tg} {scope : Scope} {own : List (Str × Nat)} {vs1 : List Nat}
end
end Pyr
set_option Elab.async false
set_option autoImplicit false
set_option linter.all false
set_option maxRecDepth 100000
set_option maxHeartbeats 8000000
namespace Pyr
open PySem PySem.Spec PyProof.Rows L2 Evl
section
variable {TS : TabList} {X : Cx} {tg iter tg1 iter1 elt : Expr} {fi fi1 : En → Res (List D)} {tt tt1 : En → Res Bool} {fe : En → Res D} {ifs ifs1 : List Expr} {pos : Pos} {t t1 : Tg} {scope : Scope} {own : List (Str × Nat)} {vs1 : List Nat}
end
end Pyr
set_option Elab.async false
set_option autoImplicit false
set_option linter.all false
set_option maxRecDepth 100000
set_option maxHeartbeats 8000000
namespace Pyr
open PySem PySem.Spec PyProof.Rows L2 Evl
section
variable {TS : TabList} {X : Cx} {a : Expr} {fa : En → Res D} {pos p1 p2 p3 : Pos} {k : Nat}
end
end Pyr
set_option Elab.async false
set_option autoImplicit false
set_option linter.all false
set_option maxRecDepth 100000
set_option maxHeartbeats 8000000
namespace Pyr
open PySem PySem.Spec PyProof.Rows L2 Evl
section
variable {X : Cx} {pins : List (Addr × Obj)} {σ : L2.St} {H : Hp} {s : Shared}
end
section
variable {X : Cx} {o e f : Expr} {td ty tx : TE} {apos cpos : Pos}
end
section
variable {TS : TabList} {X : Cx} {a b : Expr} {fa fb : En → Res Pyr.D} {pos : Pos}
end
end Pyr
set_option Elab.async false
set_option autoImplicit false
set_option linter.all false
set_option maxRecDepth 100000
set_option maxHeartbeats 8000000
namespace Pyr
open PySem PySem.Spec PyProof.Rows L2 Evl
theorem SI.changeG {TS : TabList} {K : PySem.W.Frag} {G_0 H_0 G H : Hp} {ρ : Frm} {σ : L2.St} {fp : Nat → List Addr} {i : Nat} {o o' : Own} {a : Addr} {u' : HO} {v : V} (s : SI TS K G_0 H_0 ρ σ G H fp) (hi : ρ[i]? = some (Sl.own o)) (ha : σ[i]? = some (some v)) (ham : a ∈ fp i) (r : RpO TS K G (upd H a u') (fp i) v o') :
    SI TS K G_0 H_0 (ρ.set i (.own o')) σ G (upd H a u') fp := by
  have hil : i < ρ.length := (List.getElem?_eq_some_iff.mp hi).1
  obtain ⟨v', hv, ro⟩ := s.own i _ hi
  obtain ⟨u, hu, hub⟩ := ro.there a ham
  obtain ⟨z1, z2⟩ := s.free i _ hi a ham
  have keepO : ∀ b w, b ≠ a → H b = some w → upd H a u' b = some w := fun b w n h => by rw [upd_ne n]; exact h
  have gr : Gr TS G_0 H_0 G (upd H a u') := by
    refine ⟨s.gr.g, ⟨fun b w h n => keepO b w (ne_of_none h z2) (s.gr.h.same b w h n), fun b h => s.gr.h.old b (upd_none h), fun P t => (s.gr.h.tb P t).upd hu hub⟩, s.gr.nw, ⟨fun b w h => keepO b w (ne_of_none h z1) (s.gr.ok.le b w h), s.gr.ok.tb.upd hu hub, s.gr.ok.nt⟩⟩
  refine ⟨gr, by simpa using s.len, fun j d' h => ?_, fun j w h => ?_, fun j m w1 w2 h1 h2 hjm => ?_, fun j w h => ?_⟩
  · rcases set_at h with ⟨rfl, e, hl⟩ | ⟨ne, h⟩
    · cases e
    · exact s.val j d' h
  · rcases set_at h with ⟨rfl, e, hl⟩ | ⟨ne, h⟩
    · cases e
      exact ⟨_, ha, r⟩
    · obtain ⟨v2, h1, h2⟩ := s.own j w h
      refine ⟨v2, h1, h2.keep (Ex.refl G) fun b hb w2 hw _ => keepO b w2 (fun e => ?_) hw⟩
      subst e
      exact s.apart i j _ _ hi h ne _ ham hb
  · have old : ∀ {k : Nat} {w : Own}, (ρ.set i (.own o'))[k]? = some (Sl.own w) → ∃ w', ρ[k]? = some (Sl.own w') := fun {k w} h => by
      rcases set_at h with ⟨rfl, e, _⟩ | ⟨_, h⟩
      · exact ⟨_, hi⟩
      · exact ⟨w, h⟩
    obtain ⟨w1', h1'⟩ := old h1
    obtain ⟨w2', h2'⟩ := old h2
    exact s.apart j m w1' w2' h1' h2' hjm
  · rcases set_at h with ⟨rfl, e, _⟩ | ⟨_, h⟩
    · exact s.free i _ hi
    · exact s.free j w h
theorem RpOs.at' {K : PySem.W.Frag} {G H : Hp} : ∀ {l : List Addr} {us : List V} {dss : List (List D)} {j : Nat} {ds : List D}, RpOs K G H l us dss → dss[j]? = some ds → ∃ a vs, us[j]? = some (.ref a) ∧ a ∈ l ∧ H a = some (.lst vs) ∧ Rps K G vs ds ∧
      ∀ (ds' : List D) (vs' : List V), Rps K G vs' ds' → RpOs K G (upd H a (.lst vs')) l us (dss.set j ds')
  | _, _, _, _, _, .nil, h => by simp at h
  | _, _, _, 0, ds, .cons (a := a) (vs := vs) h r n q, e => by
    simp at e
    subst e
    refine ⟨a, vs, rfl, List.mem_cons_self, h, r, fun ds' vs' r' => .cons upd_same r' n (q.keep (Ex.refl G) fun b hb ws hw => ?_)⟩
    rw [upd_ne fun z => n (by rw [← z]; exact hb)]
    exact hw
  | _, _, _, j + 1, ds, .cons (a := b) h r n q, e => by
    obtain ⟨a, vs, h1, h2, h3, h4, h5⟩ := RpOs.at' (j := j) q (by simpa using e)
    refine ⟨a, vs, by simpa using h1, List.mem_cons_of_mem _ h2, h3, h4, fun ds' vs' r' => .cons ?_ r n (h5 ds' vs' r')⟩
    rw [upd_ne fun z => n (by rw [z]; exact h2)]
    exact h
structure DU (TS : TabList) (X : Cx) (e : Expr) (f : En → Res (List (List D))) : Prop where
  run : ∀ (W : WX) (ρ : En) (σ : L2.St) (G H : Hp) (Q : VK), Takes X W → RpE TS X.K G H ρ σ → Ok0 TS G H → PostG (RelU X.K) TS X W σ G H (f ρ) Q → wpE X e σ H Q
def u2 (fa fb : En → Res (List D)) : En → Res (List (List D)) := fun ρ => (fa ρ).bind fun x => (fb ρ).bind fun y => .ok [x, y]
section
variable {TS : TabList} {X : Cx} {W : WX} {a b e : Expr} {es : List Expr} {fa fb : En → Res (List D)} {fe : En → Res D} {fr : En → Res (List D)} {fu : En → Res (List (List D))} {pos p : Pos} {x : Str} {ps : List Str} {k k' : Nat} {m : List D → Res RV}
variable {G_0 H_0 G H G1 H1 : Hp} {ρ : Frm} {σ : L2.St} {fp : Nat → List Addr} {D : Ends}
end
theorem seqO {F1 F2 : Frm → Res Fl} {ρ ρ' : Frm} {r : Res RV} (h : F1 ρ = .ok (.next ρ')) (h2 : outR (F2 ρ') = r) : outR (sSeq F1 F2 ρ) = r := by
  rw [seq_ok h]
  exact h2
end Pyr
set_option Elab.async false
set_option autoImplicit false
set_option linter.all false
set_option maxRecDepth 100000
set_option maxHeartbeats 8000000
namespace Pyr
open PySem PySem.Spec PyProof.Rows L2 Evl
section
variable {TS : TabList} {X : Cx} {a e j : Expr} {fa fe fj : En → Res D}
end
abbrev RelV (K : PySem.W.Frag) : Hp → Hp → Hp → V → List D → Prop := fun _ G' H' v ds => ∃ a vs, v = .ref a ∧ SqL K H' a vs ∧ Rps K G' vs ds
structure DV (TS : TabList) (X : Cx) (e : Expr) (f : En → Res (List D)) : Prop where
  run : ∀ (W : WX) (ρ : En) (σ : L2.St) (G H : Hp) (Q : VK), Takes X W → RpE TS X.K G H ρ σ → Ok0 TS G H → PostG (RelV X.K) TS X W σ G H (f ρ) Q → wpE X e σ H Q
section
variable {TS : TabList} {X : Cx} {a : Expr} {fa : En → Res (List D)} {fe : En → Res D} {pos p1 p2 p3 : Pos} {k : Nat}
end
end Pyr
set_option Elab.async false
set_option autoImplicit false
set_option linter.all false
set_option maxRecDepth 100000
set_option maxHeartbeats 8000000
namespace Pyr
open PySem PySem.Spec PyProof.Rows L2 Evl
def keyOf : D → Option Key
  | .int i => some (.inl i)
  | .str x => some (.inr x)
  | _ => none
theorem keyOf_keyD (k : Key) : keyOf (keyD k) = some k := by cases k <;> rfl
theorem key_rel {K : PySem.W.Frag} {G : Hp} {v : V} {d : D} {k : Key} (r : Rp K G v d) (h : keyOf d = some k) : v = kV k := by
  cases r <;> simp only [keyOf, Option.some.injEq] at h <;> first | (subst h; rfl) | cases h
def dVal : List (D × D) → Key → Option D
  | [], _ => none
  | e :: es, k => if keyOf e.1 = some k then some e.2 else dVal es k
def dRepl (es : List (D × D)) (k : Key) (x : D) : List (D × D) := es.map fun e => if keyOf e.1 = some k then (e.1, x) else e
def dPutK (es : List (D × D)) (k : Key) (x : D) : List (D × D) := if (dVal es k).isSome then dRepl es k x else es ++ [(keyD k, x)]
theorem RpKv.val {K : PySem.W.Frag} {G : Hp} (k : Key) : ∀ {kvs : List (Key × V)} {es : List (D × D)}, RpKv K G kvs es → (valV kvs k = none ∧ dVal es k = none) ∨ ∃ v d, valV kvs k = some v ∧ dVal es k = some d ∧ Rp K G v d
  | _, _, .nil => .inl ⟨rfl, rfl⟩
  | _, _, .cons (k := j) (v := v) (d := d) r rs => by
    by_cases e : j = k
    · exact .inr ⟨v, d, valV_pos e, by rw [dVal, keyOf_keyD, if_pos (by rw [e])], r⟩
    · have n : ¬ (keyOf (keyD j) = some k) := by rw [keyOf_keyD]; exact fun z => e (Option.some.inj z)
      rcases RpKv.val k rs with ⟨a, b⟩ | ⟨v', d', a, b, c⟩
      · exact .inl ⟨(valV_neg e).trans a, by rw [dVal, if_neg n]; exact b⟩
      · exact .inr ⟨v', d', (valV_neg e).trans a, by rw [dVal, if_neg n]; exact b, c⟩
theorem RpKv.repl {K : PySem.W.Frag} {G : Hp} {k : Key} {v : V} {d : D} (r : Rp K G v d) : ∀ {kvs : List (Key × V)} {es : List (D × D)}, RpKv K G kvs es → RpKv K G (kvs.map fun kv => if kv.1 = k then (kv.1, v) else kv) (dRepl es k d)
  | _, _, .nil => .nil
  | _, _, .cons (k := j) (v := w) (d := x) q rs => by
    unfold dRepl
    rw [List.map_cons, List.map_cons]
    by_cases e : j = k
    · rw [if_pos e, if_pos (by rw [keyOf_keyD, e])]
      exact .cons r (RpKv.repl r rs)
    · rw [if_neg e, if_neg (by rw [keyOf_keyD]; exact fun z => e (Option.some.inj z))]
      exact .cons q (RpKv.repl r rs)
theorem RpKv.snoc {K : PySem.W.Frag} {G : Hp} {k : Key} {v : V} {d : D} (r : Rp K G v d) : ∀ {kvs : List (Key × V)} {es : List (D × D)}, RpKv K G kvs es → RpKv K G (kvs ++ [(k, v)]) (es ++ [(keyD k, d)])
  | _, _, .nil => .cons r .nil
  | _, _, .cons q rs => .cons q (RpKv.snoc r rs)
theorem RpKv.put {K : PySem.W.Frag} {G : Hp} {k : Key} {v : V} {d : D} {kvs : List (Key × V)} {es : List (D × D)} (rs : RpKv K G kvs es) (r : Rp K G v d) : RpKv K G (putK kvs k v) (dPutK es k d) := by
  unfold putK dPutK
  rw [valV_any]
  rcases rs.val k with ⟨a, b⟩ | ⟨v', d', a, b, _⟩
  · rw [a, b]
    exact rs.snoc r
  · rw [a, b]
    exact rs.repl r
theorem RpKv.len {K : PySem.W.Frag} {G : Hp} : ∀ {kvs : List (Key × V)} {es : List (D × D)}, RpKv K G kvs es → kvs.length = es.length
  | _, _, .nil => rfl
  | _, _, .cons _ rs => by rw [List.length_cons, List.length_cons, RpKv.len rs]
abbrev RelD (K : PySem.W.Frag) : Hp → Hp → Hp → V → List (D × D) → Prop := fun H0 G' H' v es => ∃ p kvs, v = .ref p ∧ H0 p = none ∧ G' p = none ∧ H' p = some (.dK kvs) ∧ RpKv K G' kvs es
structure DD (TS : TabList) (X : Cx) (e : Expr) (f : En → Res (List (D × D))) : Prop where
  run : ∀ (W : WX) (ρ : En) (σ : L2.St) (G H : Hp) (Q : VK), Takes X W → RpE TS X.K G H ρ σ → Ok0 TS G H → PostG (RelD X.K) TS X W σ G H (f ρ) Q → wpE X e σ H Q
theorem DD.de {TS : TabList} {X : Cx} {e : Expr} {f : En → Res (List (D × D))} (h : DD TS X e f) : DE TS X e (fun ρ => (f ρ).map .dict) := by
  refine ⟨?_⟩
  intro W ρ σ G H Q tk re ok post
  refine h.run W ρ σ G H Q tk re ok ?_
  have post : PostG (RelE X.K) TS X W σ G H ((f ρ).map .dict) Q := post
  refine mapP post ?_
  rintro v es G' H' g ⟨p, kvs, rfl, h0, g0, hp, r⟩ post
  obtain ⟨e1, e2⟩ := Gr.count g.ok g0 hp
  refine post _ _ H' ⟨g.g.trans e1, g.h, fun a q => ?_, e2⟩ (.dic upd_same (r.mono e1))
  by_cases z : a = p
  · subst z
    exact .inr h0
  · rw [upd_ne z] at q
    exact g.nw a q
section
variable {TS : TabList} {X : Cx} {tg iter kx vx : Expr} {fi : En → Res (List D)} {tt : En → Res Bool} {fk fv : En → Res D} {ifs : List Expr} {pos : Pos} {t : Tg} {scope : Scope} {own : List (Str × Nat)}
end
end Pyr
set_option Elab.async false
set_option autoImplicit false
set_option linter.all false
set_option maxRecDepth 100000
set_option maxHeartbeats 8000000
namespace Pyr
open PySem PySem.Spec PyProof.Rows L2 Evl
def dAtD (x y : D) : Res D := match x with
  | .dict es => match keyOf y with
    | some k => match dVal es k with
      | some d => if ptB es then .bad else .ok d
      | none => .bad
    | none => .bad
  | _ => .bad
section
variable {TS : TabList} {X : Cx} {a b e : Expr} {fa fb : En → Res D} {pos : Pos}
theorem de_dAt (C : CtE X) (ha : DE TS X a fa) (hb : DE TS X b fb) (hs : NoSl b := by intro _ _; rfl) : DE TS X (.Subscript a b pos) (e2 dAtD fa fb) := by
  refine ⟨?_⟩
  intro W ρ σ G H Q tk re ok post
  refine wpE_of (pe_dget (by have := C.un; omega) (pe_wp X a) (pe_wp X b) hs) ?_
  refine bindP (wp := fun R => wpE X a σ H R) back_E (fun Q' p => ha W ρ σ G H Q' tk re ok p) post fun v x G1 H1 _ g1 rx p => ?_
  refine bindP (wp := fun R => wpE X b σ H1 R) back_E (fun Q' q => hb W ρ σ G1 H1 Q' tk (re.mono g1) g1.ok q) p fun w y G2 H2 _ g2 ry p => ?_
  unfold dAtD at p
  split at p
  · split at p
    · rename_i k hk
      split at p
      · rename_i d hd
        cases rx with
        | ptu _ _ _ => exact p.elim
        | dic h r =>
          rw [if_neg (by rw [r.notPt]; exact Bool.false_ne_true)] at p
          rw [key_rel ry hk]
          rcases r.val k with ⟨_, z⟩ | ⟨v', d', z1, z2, z3⟩
          · rw [z] at hd
            cases hd
          · rw [z2] at hd
            cases hd
            have h2 := g2.ok.le _ _ (g2.g _ _ h)
            exact ⟨_, v', rfl, by rw [← z1]; exact DGet.k h2, fin1 g2.ok p (z3.mono g2.g)⟩
      · exact p.elim
    · exact p.elim
  · exact p.elim
end
def sSetD (i : Nat) (fe : En → Res (List (D × D))) : Frm → Res Fl := fun ρ => (fe (purE ρ)).bind fun es => .ok (.next (ρ.set i (.own (.dic es))))
def sFrzD (i : Nat) (F : Frm → Res Fl) : Frm → Res Fl := fun ρ => match ρ[i]? with
  | some (Sl.own (.dic es)) => F (ρ.set i (.val (.dict es)))
  | _ => F ρ
section
variable {TS : TabList} {X : Cx} {W : WX} {e : Expr} {fu : En → Res (List (D × D))} {F : Frm → Res Fl} {rest : List Stmt} {pos : Pos}
variable {G_0 H_0 G H G1 H1 : Hp} {ρ : Frm} {σ : L2.St} {fp : Nat → List Addr} {D : Ends}
theorem evD_run {k : List (Pyr.D × Pyr.D) → Res Fl} {R : VK} (he : DD TS X e fu) (tk : Takes X W) (s : SI TS X.K G_0 H_0 ρ σ G H fp) (p : PostS TS X W G_0 H_0 G D ((fu (purE ρ)).bind k))
    (next : ∀ (v : V) (es : List (Pyr.D × Pyr.D)) (G1 H1 : Hp), Gr TS G H G1 H1 → RelD X.K H G1 H1 v es → PostS TS X W G_0 H_0 G D (k es) → R v H1) : wpE X e σ H R := by
  exact he.run W (purE ρ) σ G H R tk s.pure s.gr.ok (stP s p next)
theorem ds_setD (i : Nat) {x : Str} {pos' : Pos} (he : DD TS X e fu) (C : CtE X) (hi : X.N[i]? = some x := by rfl) (hx : Loc X.env.scope x := by first | exact Or.inl rfl | exact Or.inr rfl) (hs : swapsWith e (some (.Name x pos')) pos.line X.env = pure false := by rfl) (hf : X.fn x = true ∨ X.env.scope.names.lookup x = some .local := by first | exact .inl rfl | exact .inr rfl) :
    DSt TS X (.Assign [.Name x pos'] e pos) (sSetD i fu) := by
  refine ⟨?_⟩
  intro W ρ σ G_0 H_0 G H fp D tk s p
  refine wpSt_of (ps_set C.nd hi hx (pe_wp X e) hs hf) ?_
  refine evD_run he tk s p fun v es G1 H1 g r p => ?_
  obtain ⟨q, kvs, rfl, h0, g0, hq, rk⟩ := r
  refine p _ G1 H1 _ g.g ((s.grow g).setOwn (.dic hq rk) (fun a ha => ?_) fun j u hj _ a ha hb => ?_)
  · rw [List.mem_singleton.mp ha]
    exact ⟨g0, s.gr.h.old q h0⟩
  · rw [List.mem_singleton.mp ha] at hb
    obtain ⟨v2, _, h2⟩ := s.own j u hj
    obtain ⟨w, hw, _⟩ := h2.there q hb
    rw [h0] at hw
    cases hw
theorem own_dic {i : Nat} {es : List (Pyr.D × Pyr.D)} (s : SI TS X.K G_0 H_0 ρ σ G H fp) (hi : ρ[i]? = some (Sl.own (.dic es))) : ∃ q kvs, σ[i]? = some (some (.ref q)) ∧ H q = some (.dK kvs) ∧ RpKv X.K G kvs es ∧ fp i = [q] := by
  obtain ⟨v, hv, ro⟩ := s.own i _ hi
  generalize hl : fp i = l at ro
  cases ro with
  | dic h r => exact ⟨_, _, hv, h, r, rfl⟩
theorem SI.freezeD {K : PySem.W.Frag} {i : Nat} {es : List (Pyr.D × Pyr.D)} (s : SI TS K G_0 H_0 ρ σ G H fp) (hi : ρ[i]? = some (Sl.own (.dic es))) : ∃ G1, Ex G G1 ∧ SI TS K G_0 H_0 (ρ.set i (.val (.dict es))) σ G1 H fp := by
  have hil : i < ρ.length := (List.getElem?_eq_some_iff.mp hi).1
  obtain ⟨v, hv, ro⟩ := s.own i _ hi
  generalize hq : fp i = q at ro
  cases ro with
  | @dic a kvs _ h1 r =>
    have ham : a ∈ fp i := by rw [hq]; simp
    obtain ⟨z1, z2⟩ := s.free i _ hi a ham
    obtain ⟨e1, e2⟩ := Gr.count s.gr.ok z1 h1
    refine ⟨_, e1, ⟨s.gr.g.trans e1, s.gr.h, fun b h => ?_, e2⟩, by simpa using s.len, fun j d' h => ?_, fun j w h => ?_, fun j m w1 w2 h1 h2 hjm => ?_, fun j w h b hb => ?_⟩
    · by_cases z : b = a
      · subst z
        exact .inr z2
      · rw [upd_ne z] at h
        exact s.gr.nw b h
    · rcases set_at h with ⟨rfl, e, hl⟩ | ⟨ne, h⟩
      · cases e
        exact ⟨_, hv, .dic upd_same (r.mono e1)⟩
      · obtain ⟨v2, q1, q2⟩ := s.val j d' h
        exact ⟨v2, q1, q2.mono e1⟩
    · rcases set_at h with ⟨rfl, e, hl⟩ | ⟨ne, h⟩
      · cases e
      · obtain ⟨v2, q1, q2⟩ := s.own j w h
        exact ⟨v2, q1, q2.keep e1 fun _ _ _ h _ => h⟩
    · rcases set_at h1 with ⟨_, e, _⟩ | ⟨_, h1⟩
      · cases e
      · rcases set_at h2 with ⟨_, e, _⟩ | ⟨_, h2⟩
        · cases e
        · exact s.apart j m w1 w2 h1 h2 hjm
    · rcases set_at h with ⟨_, e, _⟩ | ⟨ne, h⟩
      · cases e
      · obtain ⟨q1, q2⟩ := s.free j w h b hb
        refine ⟨?_, q2⟩
        rw [upd_ne fun e => ?_]
        · exact q1
        · subst e
          exact s.apart i j _ _ hi h ne _ ham hb
theorem dss_frzD {i : Nat} (h : DSs TS X rest F) : DSs TS X rest (sFrzD i F) := by
  refine ⟨?_⟩
  intro W ρ σ G_0 H_0 G H fp D tk s p
  unfold sFrzD at p
  split at p
  · rename_i es hi
    obtain ⟨G1, e, s1⟩ := s.freezeD hi
    exact h W _ σ G_0 H_0 G1 H fp D tk s1 (p.shift e)
  · exact h W ρ σ G_0 H_0 G H fp D tk s p
end
abbrev eDcD (f : En → Res (List (D × D))) : En → Res D := fun ρ => (f ρ).map .dict
end Pyr
set_option Elab.async false
set_option autoImplicit false
set_option linter.all false
set_option maxRecDepth 100000
set_option maxHeartbeats 4000000
namespace Com3
noncomputable section
open PySem PySem.Spec PyProof.Rows L2 Evl Pyr Com2
def T__law_word_4 : Frm → Res Fl := (sRet (e2 addD (e2 addD (eVar 4) (e2 atD (eVar 2) (eVar 3))) (eSlice (eC (.str "q7")) oNone (oSome (e2 modD (eN (oneD int2D) (aC (e2 fdivD (eVar 0) (eC (.int 4))) a0)) (eC (.int 3)))))))
def T__law_word_3 : Frm → Res Fl := (sSeq (sIf (tE boolD (e2 eqD (e2 modD (eN (oneD int2D) (aC (e2 fdivD (eVar 0) (eC (.int 12))) a0)) (eC (.int 5))) (eC (.int 1)))) (sSet 4 (e2 addD (e2 addD (eVar 4) (eVar 4)) (eVar 4))) sNext)
  T__law_word_4)
def T__law_word_2 : Frm → Res Fl := (sSeq (sSet 4 (eSlice (eC (.str "ab0")) oNone (oSome (e2 modD (eN (oneD int2D) (aC (eVar 0) a0)) (eC (.int 4))))))
  T__law_word_3)
def T__law_word_1 : Frm → Res Fl := (sSeq (sSet 3 (e2 modD (eN (oneD int2D) (aC (e2 addD (e2 mul2D (eVar 1) (eC (.int 5))) (eVar 0)) a0)) (eC (.int 36))))
  T__law_word_2)
def F__law_word : Frm → Res Fl := (sSeq (sSet 2 (eC (.str "abcdefghijklmnopqrstuvwxyz0123456789")))
  T__law_word_1)
noncomputable def m__law_word : List D → Res RV := hid (defM 2 5 F__law_word)
theorem u__law_word : m__law_word = defM 2 5 F__law_word := hid_eq _
def rt (q : Int) : List Nat := ("q7" : Str).cps.toList.take ((q.fdiv 4).fmod 3).toNat
structure ScOk (S : List Tb) : Prop where
  one : 1 ≤ S.length
  four : S.length ≤ 4
  wd : ∀ t ∈ S, Wd t.1
  nd : (S.map (·.1)).Nodup
  w : ∀ t ∈ S, 1 ≤ t.2.1 ∧ t.2.1 ≤ 4
  k : ∀ t ∈ S, ∀ j, t.2.2 = some j → 1 ≤ j ∧ j ≤ t.2.1
abbrev natD (n : Nat) : Pyr.D := .int (n : Int)
inductive Tm where
  | var (n : Nat)
  | word (w : Str)
  deriving DecidableEq
def TmOk : Tm → Prop
  | .var n => n < 8
  | .word w => Wd w
abbrev Am := Str × List Tm
def AmOk (a : Am) : Prop := Wd a.1 ∧ ∀ t ∈ a.2, TmOk t
def tvar : Tm → Option Nat
  | .var n => some n
  | .word _ => none
def varsR (as : List Am) : List Nat := as.flatMap fun a => a.2.filterMap tvar
def varsF (as : List Am) : List Nat := ddp (varsR as)
def AsOk (as : List Am) : Prop := ∀ a ∈ as, AmOk a ∧ a.2.length ≤ 4
structure AtOk (S : List Tb) (as : List Am) : Prop where
  one : 1 ≤ as.length
  three : as.length ≤ 3
  ok : AsOk as
  nd : (as.map (·.1)).Nodup
  tb : ∀ a ∈ as, ∃ t ∈ S, t.1 = a.1 ∧ a.2.length = t.2.1
end
end Com3
set_option Elab.async false
set_option autoImplicit false
set_option linter.all false
set_option maxRecDepth 100000
set_option maxHeartbeats 4000000
namespace Com3
noncomputable section
open PySem PySem.Spec PyProof.Rows L2 Evl Pyr Com2
structure HdOk (as : List Am) (h : List Tm) : Prop where
  ok : ∀ t ∈ h, TmOk t
  len : h.length ≤ 8
  all : ∀ n ∈ varsF as, Tm.var n ∈ h
  sub : ∀ n, Tm.var n ∈ h → n ∈ varsF as
end
end Com3
set_option Elab.async false
set_option autoImplicit false
set_option linter.all false
set_option maxRecDepth 100000
set_option maxHeartbeats 4000000
namespace Com3
noncomputable section
open PySem PySem.Spec PyProof.Rows L2 Evl Pyr Com2
end
end Com3
set_option Elab.async false
set_option autoImplicit false
set_option linter.all false
set_option maxRecDepth 100000
set_option maxHeartbeats 4000000
namespace Com3
noncomputable section
open PySem PySem.Spec PyProof.Rows L2 Evl Pyr Com2
def Plain (h : List Tm) (as : List Am) (cs : List Pyr.D) : Prop := (∀ n ∈ varsR as, Tm.var n ∈ h) ∧ cs.length = 0 ∧ (as.map (·.1)).Nodup
instance (h : List Tm) (as : List Am) (cs : List Pyr.D) : Decidable (Plain h as cs) := by unfold Plain; infer_instance
end
end Com3
set_option Elab.async false
set_option autoImplicit false
set_option linter.all false
set_option maxRecDepth 100000
set_option maxHeartbeats 4000000
namespace Com3
noncomputable section
open PySem PySem.Spec PyProof.Rows L2 Evl Pyr Com2
abbrev Ru := List Nat × List Nat
def en (X : List Nat) (r : Ru) : Bool := r.1.all fun n => decide (n ∈ X)
def fire (X : List Nat) (r : Ru) : List Nat := if en X r then X ++ r.2 else X
def pass (K : List Ru) (X : List Nat) : List Nat := K.foldl fire X
def Same (X Y : List Nat) : Prop := ∀ n, n ∈ X ↔ n ∈ Y
def Closed (K : List Ru) (X : List Nat) : Prop := ∀ r ∈ K, en X r = true → ∀ n ∈ r.2, n ∈ X
theorem en_iff {X : List Nat} {r : Ru} : en X r = true ↔ ∀ n ∈ r.1, n ∈ X := by
  unfold en
  rw [List.all_eq_true]
  exact ⟨fun h n hn => of_decide_eq_true (h n hn), fun h n hn => decide_eq_true (h n hn)⟩
theorem en_mono {X Y : List Nat} (h : ∀ n ∈ X, n ∈ Y) {r : Ru} (e : en X r = true) : en Y r = true := en_iff.mpr fun n hn => h n (en_iff.mp e n hn)
theorem fire_sup {X : List Nat} {r : Ru} : ∀ n ∈ X, n ∈ fire X r := fun n hn => by
  unfold fire
  split
  · exact List.mem_append_left _ hn
  · exact hn
theorem pass_sup : ∀ (K : List Ru) (X : List Nat), ∀ n ∈ X, n ∈ pass K X
  | [], _, _, hn => hn
  | r :: K, X, n, hn => pass_sup K (fire X r) n (fire_sup n hn)
theorem pass_fires : ∀ (K : List Ru) (X : List Nat) (r : Ru), r ∈ K → en X r = true → ∀ n ∈ r.2, n ∈ pass K X
  | q :: K, X, r, hr, e, n, hn => by
    rcases List.mem_cons.mp hr with rfl | hr
    · refine pass_sup K (fire X r) n ?_
      unfold fire
      rw [if_pos e]
      exact List.mem_append_right _ hn
    · exact pass_fires K (fire X q) r hr (en_mono fire_sup e) n hn
theorem Same.refl (X : List Nat) : Same X X := fun _ => Iff.rfl
theorem Same.symm {X Y : List Nat} (h : Same X Y) : Same Y X := fun n => (h n).symm
theorem Same.trans {X Y Z : List Nat} (h : Same X Y) (k : Same Y Z) : Same X Z := fun n => (h n).trans (k n)
theorem en_same {X Y : List Nat} (h : Same X Y) (r : Ru) : en X r = en Y r := by
  rw [Bool.eq_iff_iff]
  exact ⟨en_mono fun n hn => (h n).mp hn, en_mono fun n hn => (h n).mpr hn⟩
theorem Closed.same {K : List Ru} {X Y : List Nat} (h : Closed K X) (s : Same X Y) : Closed K Y := fun r hr e n hn => (s n).mp (h r hr (by rw [en_same s]; exact e) n hn)
def cnt (K : List Ru) (X : List Nat) : Nat := (K.filter (en X)).length
theorem filter_cnt {α : Type} {p q : α → Bool} : ∀ K : List α, (∀ r ∈ K, p r = true → q r = true) → (K.filter p).length ≤ (K.filter q).length ∧ ((K.filter p).length = (K.filter q).length → ∀ r ∈ K, q r = true → p r = true)
  | [], _ => ⟨Nat.le_refl _, fun _ r hr => nomatch hr⟩
  | r :: K, h => by
    obtain ⟨a, b⟩ := filter_cnt K fun x hx => h x (List.mem_cons_of_mem _ hx)
    have h0 := h r List.mem_cons_self
    rw [List.filter_cons, List.filter_cons]
    cases hp : p r with
    | true =>
      rw [h0 hp]
      simp only [if_true, List.length_cons]
      refine ⟨by omega, fun e x hx hq => ?_⟩
      rcases List.mem_cons.mp hx with rfl | hx
      · exact hp
      · exact b (by omega) x hx hq
    | false =>
      cases hq : q r with
      | true =>
        simp only [if_true, List.length_cons, Bool.false_eq_true, if_false]
        exact ⟨by omega, fun e => by omega⟩
      | false =>
        simp only [Bool.false_eq_true, if_false]
        refine ⟨a, fun e x hx hq' => ?_⟩
        rcases List.mem_cons.mp hx with rfl | hx
        · rw [hq] at hq'
          cases hq'
        · exact b e x hx hq'
theorem grow (K : List Ru) (X : List Nat) : Closed K (pass K X) ∨ cnt K X < cnt K (pass K X) := by
  obtain ⟨a, b⟩ := filter_cnt (p := en X) (q := en (pass K X)) K fun r _ e => en_mono (pass_sup K X) e
  by_cases e : (K.filter (en X)).length = (K.filter (en (pass K X))).length
  · exact .inl fun r hr er n hn => pass_fires K X r hr (b e r hr er) n hn
  · exact .inr (Nat.lt_of_le_of_ne a e)
end
end Com3
set_option Elab.async false
set_option autoImplicit false
set_option linter.all false
set_option maxRecDepth 100000
set_option maxHeartbeats 4000000
namespace Com3
noncomputable section
open PySem PySem.Spec PyProof.Rows L2 Evl Pyr Com2
end
end Com3
set_option Elab.async false
set_option autoImplicit false
set_option linter.all false
set_option maxRecDepth 100000
set_option maxHeartbeats 4000000
namespace Com3
noncomputable section
open PySem PySem.Spec PyProof.Rows L2 Evl Pyr Com2
abbrev tk (n : Nat) : Pyr.D × Pyr.D := (natD n, .bool true)
end
end Com3
set_option Elab.async false
set_option autoImplicit false
set_option linter.all false
set_option maxRecDepth 100000
set_option maxHeartbeats 1000000
namespace Pyr
open PySem PySem.Spec PyProof.Rows L2 Evl
inductive IsP (K : PySem.W.Frag) (mg : Str → Option Value) (c x : Str) (b : Bool) : Prop
  | own (C D : Addr) : mg c = some (.ref C) → L2.ExcC K C → mg x = some (.ref D) → PySem.W.kitOne K (.ref C) (.ref D) = some b → IsP K mg c x b
  | ty (C : Addr) (T : String) : mg c = some (.ref C) → L2.ExcC K C → mg x = none → bootBuiltins x = some (.type T) → x ≠ "__name__" → PySem.W.kitOne K (.ref C) (.type T) = some b → IsP K mg c x b
abbrev CtTab := List (Str × Bool)
def CtT (K : PySem.W.Frag) (mg : Str → Option Value) (x : Str) (ct : CtTab) : Prop := ∃ D, mg x = some (.ref D) ∧ ∀ p ∈ ct, ∃ C, mg p.1 = some (.ref C) ∧ PySem.W.exmOne K (.ref C) (.ref D) = some p.2
def ctT (ct : CtTab) (c : Str) : Option Bool := (ct.find? fun p => p.1 == c).map (·.2)
structure QE (X : Cx) (a : Addr) (i : Nat) (e : Expr) (r : Option Bool) : Prop where
  run : ∀ (σ : L2.St) (H : Hp) (R : VK) (b : Bool), σ[i]? = some (some (.ref a)) → r = some b → R (.bl b) H → wpE X e σ H R
structure QT (X : Cx) (a : Addr) (i : Nat) (e : Expr) (r : Option Bool) : Prop where
  run : ∀ (σ : L2.St) (H : Hp) (R : Bool → Hp → Prop) (b : Bool), σ[i]? = some (some (.ref a)) → r = some b → R b H → wpT X e σ H R
structure QW (X : Cx) (a : Addr) (i : Nat) (e : Expr) (r : Option Bool) : Prop where
  run : ∀ (σ : L2.St) (H : Hp) (R : Bool → Hp → Prop) (b : Bool), σ[i]? = some (some (.ref a)) → r = some b → R b H → wpW X e σ H R
structure QA (X : Cx) (a : Addr) (i : Nat) (es : List Expr) (r : Option (List Bool)) : Prop where
  run : ∀ (σ : L2.St) (H : Hp) (R : List V → Hp → Prop) (bs : List Bool), σ[i]? = some (some (.ref a)) → r = some bs → R (bs.map V.bl) H → wpA X es σ H R
structure QSs (TS : TabList) (X : Cx) (a : Addr) (i : Nat) (body : List Stmt) (r : Res RV) : Prop where
  run : ∀ (W : WX) (σ : L2.St) (G_0 H_0 G H : Hp) (D : Ends), σ[i]? = some (some (.ref a)) → Gr TS G_0 H_0 G H → PostS TS X W G_0 H_0 G D (r.map Fl.ret) → wpSs X body D σ H
section
variable {TS : TabList} {X : Cx} {a : Addr} {i : Nat} {e e2 : Expr} {es rest : List Expr} {c : Str} {f g : Str → Option Bool} {b1 : List Stmt} {fr gr : Str → Res RV} {pos : Pos}
theorem PostS.tr {Y : Cx} {pn : List (Addr × Obj)} {xe : Value → Shared → Prop} {G_0 H_0 G : Hp} {D : Ends} {W : WX} {r : Res Fl} (p : PostS TS Y W G_0 H_0 G D r) : PostS TS (Y.tr pn xe) W G_0 H_0 G D r := by
  induction r with
  | ok fl =>
    cases fl with
    | ret rv => cases rv <;> exact p
    | _ => exact p
  | exc c fs => exact p
  | bad => exact p
  | alt f ih => exact fun i => ih i (p i)
theorem PostS.suite {Y : Cx} {u : Addr} {pn : List (Addr × Obj)} {G_0 H_0 G : Hp} {D : Ends} {W : WX} {r : Res Fl} (p : PostS TS Y W G_0 H_0 G D r) : PostS TS (Y.suite u pn) W G_0 H_0 G D r := by
  induction r with
  | ok fl =>
    cases fl with
    | ret rv => cases rv <;> exact p
    | _ => exact p
  | exc c fs => exact p
  | bad => exact p
  | alt f ih => exact fun i => ih i (p i)
end
theorem CtE.tr {X : Cx} (C : CtE X) (pn : List (Addr × Obj)) (xe : Value → Shared → Prop) : CtE (X.tr pn xe) := ⟨C.calm, C.nd, C.un⟩
abbrev CtQ (K : PySem.W.Frag) (x c : Str) (b : Bool) : Prop := ∃ C D, PySem.W.nsIn K mainGlobals c = some (some (.ref C)) ∧ PySem.W.nsIn K mainGlobals x = some (some (.ref D)) ∧ PySem.W.subIn K (.ref D) (.type "BaseException") = some true ∧ PySem.W.hasDictIn K D = true ∧ PySem.W.typeIn K (.ref D) = some (.type "type") ∧ PySem.W.subIn K (.ref C) (.ref D) = some b
section
variable {K : PySem.W.Frag} {mg : Str → Option Value} {h : Heap} {c x : Str} {b : Bool}
theorem ctT_one (X : K.In h) (G : h.Ns mainGlobals mg) (q : CtQ K x c b) : CtT K mg x [(c, b)] := by
  obtain ⟨C, D, h0, h1, h2, h3, h4, h5⟩ := q
  exact ⟨D, PySem.W.mg_of X G h1, fun p hp => by
    rw [List.mem_singleton.mp hp]
    exact ⟨C, PySem.W.mg_of X G h0, PySem.W.exm_ref h2 h3 h4 h5⟩⟩
end
end Pyr
set_option Elab.async false
set_option autoImplicit false
set_option linter.all false
set_option maxRecDepth 100000
set_option maxHeartbeats 4000000
namespace Pyr
open PySem PySem.Spec PyProof.Rows L2 Evl
section
variable {TS : TabList} {X : Cx} {a b e : Expr} {fa fb : En → Res D} {pos : Pos}
end
def sPutD (i : Nat) (fk fe : En → Res D) : Frm → Res Fl := fun ρ => match ρ[i]? with
  | some (Sl.own (.dic es)) => (evP fe ρ).bind fun d => (evP fk ρ).bind fun k => match keyOf k with
    | some k => okL (es.length + 1) (.ok (.next (ρ.set i (.own (.dic (dPutK es k d))))))
    | none => .bad
  | _ => .bad
section
variable {TS : TabList} {X : Cx} {W : WX} {e j tg : Expr} {fe fj : En → Res D} {pos : Pos} {t : Tr}
theorem ds_putD (i : Nat) {x : Str} {pos' spos : Pos} (C : CtE X) (he : DE TS X e fe) (hj : DE TS X j fj) (hN : X.N[i]? = some x := by rfl) (hv : Vis X.env.scope x := by first | exact Or.inl rfl | exact Or.inr (Or.inl rfl) | exact Or.inr (Or.inr rfl)) (hd : (x == ("__debug__" : Str)) = false := by decide) (hcd : (x == ("__classdict__" : Str)) = false := by decide)
    (hs : swapsWith e (some (.Subscript (.Name x pos') j spos)) pos.line X.env = pure false := by rfl) :
    DSt TS X (.Assign [.Subscript (.Name x pos') j spos] e pos) (sPutD i fj fe) := by
  refine ⟨?_⟩
  intro W ρ σ G_0 H_0 G H fp D tk s p
  refine wpSt_of (ps_dput (by have := C.un; omega) (pe_var hN hv hd hcd) (pe_wp X j) (pe_wp X e) hs) ?_
  unfold sPutD at p
  split at p
  · rename_i es hi
    obtain ⟨q, kvs, h1, h2, rk, hl⟩ := own_dic s hi
    refine evP_run he tk s p fun v d G1 H1 g r p => ?_
    refine ⟨_, h1, ?_⟩
    refine evP_run hj tk (s.grow g) (p.shift g.g) fun w y G2 H2 g2 ry p => ?_
    have p := p.shift g2.g
    split at p
    · rename_i k hk
      rw [key_rel ry hk]
      have hq : H2 q = some (.dK kvs) := (g.trans g2).h.at h2 rfl
      have hp : es.length + 1 ≤ LIM ∧ PostS TS X W G_0 H_0 G2 D (.ok (.next (ρ.set i (.own (.dic (dPutK es k d)))))) := by
        unfold okL at p
        split at p
        · exact ⟨by assumption, p⟩
        · exact p.elim
      have s2 := (s.grow g).grow g2
      refine ⟨q, _, rfl, DPut.k hq (by rw [rk.len]; exact Nat.lt_of_succ_le (Nat.le_trans hp.1 (by decide))), ?_⟩
      refine hp.2 σ G2 _ fp (Ex.refl _) (s2.changeG hi h1 (a := q) (by rw [hl]; simp) ?_)
      rw [hl]
      exact .dic upd_same ((rk.mono (g.g.trans g2.g)).put (r.mono g2.g))
    · exact p.elim
  · exact p.elim
end
end Pyr
set_option Elab.async false
set_option autoImplicit false
set_option linter.all false
set_option maxRecDepth 100000
set_option maxHeartbeats 8000000
namespace Pyr
open PySem PySem.Spec PyProof.Rows L2 Evl
section
variable {prog : Program} {w : World} {A : Around} {R : Result → Shared → Prop} {I : Addr} {fp wr : List Addr} {G : Array GenState → Array GenState → Prop} {n : Nat} {Pi : Nat → Value → Prop} {St : Nat → Shared → Prop}
end
section
variable {prog : Program} {w : World} {A : Around} {E : Value → Shared → Prop} {s : Shared}
end
section
variable {X : Cx}
end
section
variable {TS : TabList} {X : Cx} {a : Expr} {fa : En → Res D}
end
end Pyr
set_option Elab.async false
set_option autoImplicit false
set_option linter.all false
set_option maxRecDepth 100000
set_option maxHeartbeats 4000000
namespace Pyr
open PySem PySem.Spec PyProof.Rows L2 Evl
def sPar (i j : Nat) (fr : En → Res (List D)) : Frm → Res Fl := fun ρ => (fr (purE ρ)).bind fun ds => match ds with
  | [x, y] => .ok (.next ((ρ.set i (.val x)).set j (.val y)))
  | _ => .bad
section
variable {TS : TabList} {X : Cx} {a b : Expr} {fr : En → Res (List D)} {pos p : Pos} {x y : Str} {ps : List Str} {k k' : Nat} {m : List D → Res RV}
theorem ds_par (i j : Nat) {px py pt pt2 : Pos} {kt k2 : Nat} (C : CtE X) (ha : DA TS X [a, b] fr) (hij : i ≠ j) (hi : X.N[i]? = some x) (hj : X.N[j]? = some y) (hx : X.env.scope.names.lookup x = some .local) (hy : X.env.scope.names.lookup y = some .local)
    (hw : swappedStores [.Tuple [.Name x px, .Name y py] kt pt] (.Tuple [a, b] k2 pt2) X.env = pure (some [x, y]))
    (hs : swapsWithSole [.Tuple [.Name x px, .Name y py] kt pt] (.Tuple [a, b] k2 pt2) pos.line X.env = pure false := by rfl) :
    DSt TS X (.Assign [.Tuple [.Name x px, .Name y py] kt pt] (.Tuple [a, b] k2 pt2) pos) (sPar i j fr) := by
  refine ⟨?_⟩
  intro W ρ σ G_0 H_0 G H fp D tk s p
  refine wpSt_of (ps_par C.calm C.nd hi hj hij hx hy (pa_wp X [a, b]) hw hs) ?_
  unfold sPar at p
  refine ha W (purE ρ) σ G H _ tk s.pure s.gr.ok (stP s p fun vs ds G1 H1 g rs p => ?_)
  split at p
  · cases rs with
    | cons r1 rs =>
      cases rs with
      | cons r2 rs =>
        cases rs
        exact ⟨_, _, rfl, p _ G1 H1 fp g.g (((s.grow g).setVal r1).setVal r2)⟩
  · exact p.elim
end
end Pyr
set_option Elab.async false
set_option autoImplicit false
set_option linter.all false
set_option maxRecDepth 100000
set_option maxHeartbeats 8000000
namespace Pyr
open PySem PySem.Spec PyProof.Rows L2 Evl
abbrev BR := (Shared → Prop) → Shared → Prop
def StOk (Y : Cx) (e : Expr) (k : Nat) (acc : Value) : Prop :=
  ∀ (it : Value) (R : Result → Shared → Prop) (s : Shared), codeAny (model Y.prog Y.w) Y.A (.compLoop e k it acc Y.env) R s →
    wpAny (model Y.prog Y.w) Y.A (pyIter it) (fun it' u => codeAny (model Y.prog Y.w) Y.A (.compLoop e k it' acc Y.env) R u) (notedBy (model Y.prog Y.w) Y.A Y.env fun x u => R (.error x) u) s →
    codeAny (model Y.prog Y.w) Y.A (.compStart e k it acc Y.env) R s
abbrev TB := L2.St → Hp → (Hp → Prop) → Prop
structure PB (Y : Cx) (B : BR) (vs : List Nat) (t : TB) : Prop where
  run : ∀ (pins : List (Addr × Obj)) (u : Shared) (σ : L2.St) (H : Hp) (Nx : Hp → Prop) (P : Shared → Prop), Inv Y pins σ H u → t σ H Nx → (∀ u' H', Inv Y pins (wipe σ vs) H' u' → Nx H' → P u') → B P u
section
variable {X : Cx} {elt tg iter : Expr} {ifs : List Expr} {gs : List Comprehension} {scope : Scope} {own : List (Str × Nat)} {pos : Pos} {wi : TI} {g : TG} {tt : TT} {body : Addr → TB} {B : Cx → Addr → BR} {vs1 : List Nat}
end
end Pyr
set_option Elab.async false
set_option autoImplicit false
set_option linter.all false
set_option maxRecDepth 100000
set_option maxHeartbeats 8000000
namespace Pyr
open PySem PySem.Spec PyProof.Rows L2 Evl
abbrev CF := En → Res (List D)
section
variable {TS : TabList} {X : Cx}
structure HoldL (TS : TabList) (K : PySem.W.Frag) (G1 H1 : Hp) (l : Addr) (pre : List D) (G H : Hp) : Prop where
  gr : Gr TS G1 H1 G H
  out : G l = none
  at' : ∃ vs, H l = some (.lst vs) ∧ Rps K G vs pre
theorem HoldL.grow {K : PySem.W.Frag} {G1 H1 G H G' H' : Hp} {l : Addr} {pre : List D} (x : HoldL TS K G1 H1 l pre G H) (g : Gr TS G H G' H') : HoldL TS K G1 H1 l pre G' H' := by
  obtain ⟨vs, h1, h2⟩ := x.at'
  refine ⟨x.gr.trans g, ?_, vs, g.h.same l _ h1 (fun _ e => by cases e), h2.mono g.g⟩
  cases q : G' l with
  | none => rfl
  | some w =>
    rcases g.nw l (by rw [q]; simp) with c | c
    · exact absurd x.out c
    · rw [h1] at c
      cases c
def FrOk (TS : TabList) (K : PySem.W.Frag) (G1 H1 G : Hp) (ρ : En) (σ : L2.St) : Prop := ∀ {G' H' : Hp}, Gr TS G1 H1 G' H' → Ex G G' → RpE TS K G' H' ρ σ
structure DB (TS : TabList) (X : Cx) (body : Addr → TB) (fb : CF) : Prop where
  run : ∀ (l : Addr) (G1 H1 G H : Hp) (ρ : En) (σ : L2.St) (pre ys : List D) (Nx : Hp → Prop), H1 l = none → HoldL TS X.K G1 H1 l pre G H → FrOk TS X.K G1 H1 G ρ σ → fb ρ = .ok ys → pre.length + ys.length ≤ 100000 →
    (∀ G' H', HoldL TS X.K G1 H1 l (pre ++ ys) G' H' → Ex G G' → Nx H') → body l σ H Nx
variable {tg iter elt : Expr} {fi : CF} {tt : En → Res Bool} {fb : CF} {fe : En → Res D} {ifs : List Expr} {t : Tg} {scope : Scope} {own : List (Str × Nat)} {vs vs1 : List Nat} {body : Addr → TB}
variable {gs : List Comprehension} {pos : Pos} {B : Cx → Addr → BR}
end
end Pyr
set_option Elab.async false
set_option autoImplicit false
set_option linter.all false
set_option maxRecDepth 100000
set_option maxHeartbeats 8000000
namespace Pyr
open PySem PySem.Spec PyProof.Rows L2 Evl
section
variable {TS : TabList} {X : Cx} {elt tg iter tg1 iter1 tg2 iter2 : Expr} {ifs ifs1 ifs2 : List Expr} {scope : Scope} {pos : Pos} {own : List (Str × Nat)} {vs1 vs2 : List Nat} {t t1 t2 : Tg} {fi fi1 fi2 : CF} {tt tt1 tt2 : En → Res Bool} {fe : En → Res D}
end
end Pyr
set_option Elab.async false
set_option autoImplicit false
set_option linter.all false
set_option maxRecDepth 100000
set_option maxHeartbeats 2000000
namespace Pyr
open PySem PySem.Spec PyProof.Rows L2 Evl
def spS (TS : TabList) (K : PySem.W.Frag) (mg : Str → Option Value) (m : List D → Res RV) : Sp := fun vs H Q E => ∃ G a us ds, vs = .ref a :: us ∧ StrAt K G a ∧ Rps K G us ds ∧ Ok0 TS G H ∧ PostF TS K mg G H (m ds) Q E
structure KnownS (TS : TabList) (P : Program) (w : World) (K : PySem.W.Frag) (mg : Str → Option Value) (base : Heap) (k : Nat) (x : Str) (ps : List Str) (m : List D → Res RV) : Prop where
  ex : ∃ f fd, FnOk P w K mg base (L2N.CX P w) k f fd ps (spS TS K mg m) ∧ mg x = some (.ref f) ∧ PySem.W.keepIn K (.ref f) = true ∧ Binds K fd ps []
def smB : D → Bool
  | .dict [(.bool true, .list [.bool false])] => true
  | _ => false
def smAt (i : Nat) (ρ : En) : Bool := match ρ[i]? with
  | some (some d) => smB d
  | _ => false
def eCallS (i : Nat) (m : List D → Res RV) (fr : En → Res (List D)) : En → Res D := fun ρ => if smAt i ρ then (fr ρ).bind fun ds => (m ds).map RV.d else .bad
section
variable {TS : TabList} {X : Cx} {W : WX} {es : List Expr} {fr : En → Res (List D)} {pos p py : Pos} {x y : Str} {ps : List Str} {k k' : Nat} {m : List D → Res RV} {σ : L2.St} {G H : Hp}
end
def frmS (n : Nat) (ds : List D) : Frm := Sl.own .strm :: frm0 (n - 1) ds
def defS (np n : Nat) (F : Frm → Res Fl) : List D → Res RV := fun ds => if ds.length + 1 = np then outR (F (frmS n ds)) else .bad
end Pyr
set_option Elab.async false
set_option autoImplicit false
set_option linter.all false
set_option maxRecDepth 100000
set_option maxHeartbeats 2000000
namespace Pyr
open PySem PySem.Spec PyProof.Rows L2 Evl Classical
def Jd (a sc : Addr) (σ : L2.St) (H : Hp) : Prop := σ[0]? = some (some (.ref a)) ∧ ∃ vs, H a = some (.lst vs) ∧ vs[0]? = some (V.ref sc)
theorem Jd.grow {TS : TabList} {G H G1 H1 : Hp} {a sc : Addr} {σ : L2.St} (j : Jd a sc σ H) (g : Gr TS G H G1 H1) : Jd a sc σ H1 :=
  let ⟨h0, vs, h1, h2⟩ := j
  ⟨h0, vs, g.h.at h1 rfl, h2⟩
def NxI (TS : TabList) (K : PySem.W.Frag) (G_0 H_0 G : Hp) (a sc : Addr) (ρ' : Frm) (N : L2.St → Hp → Prop) : Prop := ∀ (σ : L2.St) (G' H' : Hp) (fp : Nat → List Addr), Ex G G' → SI TS K G_0 H_0 ρ' σ G' H' fp → Jd a sc σ H' → N σ H'
structure DStI (TS : TabList) (X : Cx) (st : Stmt) (F : Frm → Res Fl) : Prop where
  run : ∀ (W : WX) (ρ ρ' : Frm) (σ : L2.St) (G_0 H_0 G H : Hp) (fp : Nat → List Addr) (D : Ends) (a sc : Addr), Takes X W → SI TS X.K G_0 H_0 ρ σ G H fp → Jd a sc σ H → F ρ = .ok (.next ρ') → NxI TS X.K G_0 H_0 G a sc ρ' D.nx → wpSt X st D σ H
structure DSsI (TS : TabList) (X : Cx) (st : List Stmt) (F : Frm → Res Fl) : Prop where
  run : ∀ (W : WX) (ρ ρ' : Frm) (σ : L2.St) (G_0 H_0 G H : Hp) (fp : Nat → List Addr) (D : Ends) (a sc : Addr), Takes X W → SI TS X.K G_0 H_0 ρ σ G H fp → Jd a sc σ H → F ρ = .ok (.next ρ') → NxI TS X.K G_0 H_0 G a sc ρ' D.nx → wpSs X st D σ H
structure DSsT (TS : TabList) (X : Cx) (st : List Stmt) (F : Frm → Res (Frm × D)) : Prop where
  run : ∀ (W : WX) (ρ ρ' : Frm) (d : Pyr.D) (σ : L2.St) (G_0 H_0 G H : Hp) (fp : Nat → List Addr) (D : Ends) (a sc : Addr), Takes X W → SI TS X.K G_0 H_0 ρ σ G H fp → Jd a sc σ H → F ρ = .ok (ρ', d) →
    (∀ (σ' : L2.St) (G' H' : Hp) (fp' : Nat → List Addr) (v : V), Ex G G' → SI TS X.K G_0 H_0 ρ' σ' G' H' fp' → Jd a sc σ' H' → Rp X.K G' v d → D.rt v H') → wpSs X st D σ H
theorem NxI.shift {TS : TabList} {K : PySem.W.Frag} {G_0 H_0 G G1 : Hp} {a sc : Addr} {ρ' : Frm} {N : L2.St → Hp → Prop} (n : NxI TS K G_0 H_0 G a sc ρ' N) (e : Ex G G1) : NxI TS K G_0 H_0 G1 a sc ρ' N := fun σ G' H' fp e' => n σ G' H' fp (e.trans e')
section
variable {TS : TabList} {X : Cx} {W : WX} {e c : Expr} {fe fj : En → Res Pyr.D} {ft : En → Res Bool} {F1 F2 : Frm → Res Fl} {FT : Frm → Res (Frm × Pyr.D)} {st : Stmt} {rest b1 b2 : List Stmt} {pos : Pos}
variable {G_0 H_0 G H G1 H1 : Hp} {ρ : Frm} {σ : L2.St} {fp : Nat → List Addr}
end
end Pyr
set_option Elab.async false
set_option autoImplicit false
set_option linter.all false
set_option maxRecDepth 100000
set_option maxHeartbeats 2000000
namespace Pyr
open PySem PySem.Spec PyProof.Rows L2 Evl
def drawM : List D → Res RV
  | [.int n] => if 0 < n ∧ n < 1073741824 then .alt fun i => .ok (.val (.int ((i : Int) % n))) else .bad
  | _ => .bad
section
variable {TS : TabList} {K : PySem.W.Frag} {G H : Hp} {a sc : Addr} {ns : List Int} {p c n : Int} {N : List Str}
end
end Pyr
set_option Elab.async false
set_option autoImplicit false
set_option linter.all false
set_option maxRecDepth 100000
set_option maxHeartbeats 2000000
namespace Pyr
open PySem PySem.Spec PyProof.Rows L2 Evl
section
variable {TS : TabList} {X : Cx} {W : WX} {e : Expr} {fl : En → Res (List Pyr.D)} {pos : Pos}
variable {G_0 H_0 G H G1 H1 : Hp} {ρ : Frm} {σ : L2.St} {fp : Nat → List Addr}
end
theorem Res.All.bind {α β : Type} {r : Res α} {k : α → Res β} {R : α → Prop} {Q : β → Prop} (h : r.All R) (h2 : ∀ a, R a → (k a).All Q) : (r.bind k).All Q := by
  induction r with
  | ok a => exact h2 a h
  | alt f ih => exact fun i => ih i (h i)
  | _ => exact h.elim
theorem Res.All.imp {α : Type} {r : Res α} {R Q : α → Prop} (h : r.All R) (h2 : ∀ a, R a → Q a) : r.All Q := by
  induction r with
  | ok a => exact h2 a h
  | alt f ih => exact fun i => ih i (h i)
  | _ => exact h.elim
theorem Res.All.map {α β : Type} {r : Res α} {f : α → β} {R : α → Prop} {Q : β → Prop} (h : r.All R) (h2 : ∀ a, R a → Q (f a)) : (r.map f).All Q := by
  induction r with
  | ok a => exact h2 a h
  | alt f ih => exact fun i => ih i (h i)
  | _ => exact h.elim
theorem draw_all {n : Nat} (hn : 0 < n) (hb : n < 1073741824 := by omega) : (drawM [.int (n : Int)]).All fun r => ∃ i : Nat, i < n ∧ r = .val (.int (i : Int)) := by
  have h : drawM [.int (n : Int)] = .alt fun i => .ok (.val (.int ((i : Int) % (n : Int)))) := if_pos ⟨by omega, by omega⟩
  rw [h]
  intro i
  refine ⟨i % n, Nat.mod_lt i hn, ?_⟩
  rw [← Int.natCast_emod]
end Pyr
set_option Elab.async false
set_option autoImplicit false
set_option linter.all false
set_option maxRecDepth 100000
set_option maxHeartbeats 4000000
namespace Com5
noncomputable section
open PySem PySem.Spec PyProof.Rows L2 Evl Pyr Com2
theorem KnownS.cast {TS : TabList} {P : Program} {w : World} {K : PySem.W.Frag} {mg : Str → Option Value} {base : Heap} {k : Nat} {x : Str} {ps : List Str} {m m' : List Pyr.D → Res RV} (e : m = m') (h : KnownS TS P w K mg base k x ps m') : KnownS TS P w K mg base k x ps m := e ▸ h
end
end Com5
set_option Elab.async false
set_option autoImplicit false
set_option linter.all false
set_option maxRecDepth 100000
set_option maxHeartbeats 1000000
namespace Pyr
open PySem PySem.Spec PyProof.Rows L2 Evl
theorem noX_all {α : Type} {r : Res α} {R : α → Prop} (h : r.All R) : (noX r).All R := by
  induction r with
  | alt f ih => exact fun i => ih i (h i)
  | exc c fs => exact h.elim
  | _ => exact h
theorem bare_all {α : Type} {r : Res α} {R : α → Prop} (h : r.All R) : (bare r).All R := by
  induction r with
  | alt f ih => exact fun i => ih i (h i)
  | exc c fs => exact h.elim
  | _ => exact h
theorem outR_all {r : Res Fl} {R : RV → Prop} (h : r.All fun fl => (∃ ρ, fl = .next ρ ∧ R (.val .none)) ∨ ∃ v, fl = .ret v ∧ R v) : (outR r).All R := by
  induction r with
  | alt f ih => exact fun i => ih i (h i)
  | ok fl =>
    rcases (show _ ∨ _ from h) with ⟨ρ, rfl, h1⟩ | ⟨v, rfl, h1⟩
    · exact h1
    · exact h1
  | _ => exact h.elim
theorem evP_all {fe : En → Res D} {ρ : Frm} {R : D → Prop} (h : (fe (purE ρ)).All R) : (evP fe ρ).All R := by
  unfold evP
  split
  · rename_i e
    rw [e] at h
    exact h.elim
  · exact h
theorem seq_all {F1 F2 : Frm → Res Fl} {ρ : Frm} {R : Frm → Prop} {Q : Fl → Prop} (h : (F1 ρ).All fun fl => ∃ ρ', fl = .next ρ' ∧ R ρ') (h2 : ∀ ρ', R ρ' → (F2 ρ').All Q) : (sSeq F1 F2 ρ).All Q :=
  h.bind fun fl ⟨ρ', e, hr⟩ => by
    subst e
    exact h2 ρ' hr
theorem set_all {i : Nat} {fe : En → Res D} {ρ : Frm} {R : D → Prop} (h : (fe (purE ρ)).All R) : (sSet i fe ρ).All fun fl => ∃ ρ', fl = .next ρ' ∧ ∃ d, R d ∧ ρ' = ρ.set i (.val d) :=
  (evP_all h).bind fun d hd => ⟨_, rfl, d, hd, rfl⟩
theorem if_all {ft : En → Res Bool} {F1 F2 : Frm → Res Fl} {ρ : Frm} {R : Bool → Prop} {Q : Fl → Prop} (h : (ft (frzE ρ)).All R) (h2 : ∀ b, R b → (if b then F1 ρ else F2 ρ).All Q) : (sIf ft F1 F2 ρ).All Q :=
  (bare_all h).bind h2
theorem ret_all {fe : En → Res D} {ρ : Frm} {R : D → Prop} (h : (fe (purE ρ)).All R) : (sRet fe ρ).All fun fl => ∃ d, R d ∧ fl = .ret (.val d) :=
  (evP_all h).bind fun d hd => ⟨d, hd, rfl⟩
theorem compF_all {t : Tg} {tt : En → Res Bool} {fe : En → Res D} {ρ : En} (R : D → Prop) : ∀ ds : List D, (∀ d ∈ ds, ∃ ρ1, tgE t d ρ = .ok ρ1 ∧ tt ρ1 = .ok true ∧ (fe ρ1).All R) → (compF t tt fe ρ ds).All fun ys => ys.length = ds.length ∧ ∀ y ∈ ys, R y
  | [], _ => ⟨rfl, fun y hy => nomatch hy⟩
  | d :: ds, h => by
    obtain ⟨ρ1, e1, e2, h1⟩ := h d List.mem_cons_self
    show ((tgE t d ρ).bind _).All _
    rw [e1]
    show ((noX (tt ρ1)).bind _).All _
    rw [e2]
    refine (noX_all h1).bind fun y hy => ?_
    refine (compF_all R ds fun x hx => h x (List.mem_cons_of_mem _ hx)).bind fun ys hys => ?_
    refine ⟨congrArg (· + 1) hys.1, fun z hz => ?_⟩
    rcases List.mem_cons.mp hz with rfl | hz
    · exact hy
    · exact hys.2 z hz
theorem forF_all {t : Tg} {F : Frm → Res Fl} (I : Nat → Frm → Prop) : ∀ (ds : List D) (i : Nat) (ρ : Frm), I i ρ →
    (∀ (j : Nat) (d : D) (ρ : Frm), ds[j]? = some d → I (i + j) ρ → ∃ ρ1, tgF t d ρ = .ok ρ1 ∧ (F ρ1).All fun fl => ∃ ρ2, (fl = .next ρ2 ∨ fl = .cont ρ2) ∧ I (i + j + 1) ρ2) →
    (forF t F ds ρ).All fun fl => ∃ ρ', fl = .next ρ' ∧ I (i + ds.length) ρ'
  | [], i, ρ, h, _ => ⟨ρ, rfl, h⟩
  | d :: ds, i, ρ, h, step => by
    obtain ⟨ρ1, e1, h1⟩ := step 0 d ρ rfl h
    show ((tgF t d ρ).bind _).All _
    rw [e1]
    refine h1.bind fun fl ⟨ρ2, e, h2⟩ => ?_
    have go : (forF t F ds ρ2).All fun fl => ∃ ρ', fl = .next ρ' ∧ I (i + (d :: ds).length) ρ' := by
      have := forF_all I ds (i + 1) ρ2 h2 fun j x ρ hx hi => by
        have := step (j + 1) x ρ hx (by rw [show i + (j + 1) = i + 1 + j by omega]; exact hi)
        rw [show i + (j + 1) + 1 = i + 1 + j + 1 by omega] at this
        exact this
      rw [List.length_cons, show i + (ds.length + 1) = i + 1 + ds.length by omega]
      exact this
    rcases e with rfl | rfl
    · exact go
    · exact go
theorem lComp_all {own : List Nat} {t : Tg} {fi : En → Res (List D)} {tt : En → Res Bool} {fe : En → Res D} {ρ : En} {ds : List D} {R : List D → Prop} (h : fi ρ = .ok ds) (hl : ds.length ≤ 100000) (hc : (compF t tt fe (wipeE ρ own) ds).All R) : (lComp own t fi tt fe ρ).All R := by
  unfold lComp
  rw [h]
  show (okL ds.length _).All R
  rw [okL_ok hl]
  exact hc
theorem callS_all {i : Nat} {m : List D → Res RV} {fr : En → Res (List D)} {ρ : En} {ds : List D} {R : RV → Prop} {Q : D → Prop} (hs : smAt i ρ = true) (h : fr ρ = .ok ds) (hm : (m ds).All R) (hq : ∀ v, R v → Q v.d) : (eCallS i m fr ρ).All Q := by
  unfold eCallS
  rw [if_pos hs, h]
  exact hm.map hq
end Pyr
set_option Elab.async false
set_option autoImplicit false
set_option linter.all false
set_option maxRecDepth 100000
set_option maxHeartbeats 4000000
namespace Com5
noncomputable section
open PySem PySem.Spec PyProof.Rows L2 Evl Pyr Com2
noncomputable def m__law_draw : List D → Res RV := hid drawM
theorem u__law_draw : m__law_draw = drawM := hid_eq _
def T__law_word_3 : Frm → Res Fl := (sRet (eJoin (eC (.str "")) (eL (lComp [3] (Tg.nm 3) (iF r1D (eVar 2)) tYesR (e2 atD (eVar 1) (eCallS 0 m__law_draw (aC (eC (.int 36)) a0)))))))
def T__law_word_2 : Frm → Res Fl := (sSeq (sIf (tE boolD (e2 eqD (eCallS 0 m__law_draw (aC (eC (.int 6)) a0)) (eC (.int 0)))) (sSet 2 (e2 addD (eC (.int 1)) (eCallS 0 m__law_draw (aC (eC (.int 12)) a0)))) sNext)
  T__law_word_3)
def T__law_word_1 : Frm → Res Fl := (sSeq (sSet 2 (e2 addD (eC (.int 1)) (eCallS 0 m__law_draw (aC (eC (.int 2)) a0))))
  T__law_word_2)
def F__law_word : Frm → Res Fl := (sSeq (sSet 1 (eC (.str "abcdefghijklmnopqrstuvwxyz0123456789")))
  T__law_word_1)
noncomputable def m__law_word : List D → Res RV := hid (defS 1 4 F__law_word)
theorem u__law_word : m__law_word = defS 1 4 F__law_word := hid_eq _
def B__law_words_0 : Frm → Res Fl := (sSeq (sSet 8 (eCallS 0 m__law_word a0))
  (sSeq (sIf (tE truD (eVar 5)) (sSet 8 (e2 addD (e2 addD (eSlice (eVar 3) oNone (oSome (eVar 4))) (e2 atD (eVar 2) (eCallS 0 m__law_draw (aC (eC (.int 36)) a0)))) (eSlice (eVar 3) (oSome (eVar 4)) oNone))) sNext)
  (sSeq (sIf (tE boolD (e2 notInD (eVar 8) (eVar 6))) (sApp 6 (eVar 8)) sNext)
  (sKill [7, 8] sNext))))
def T__law_words_6 : Frm → Res Fl := (sKill [7, 8] (sRetO 6))
def T__law_words_5 : Frm → Res Fl := (sKill [7, 8] (sSeq (sForR (Tg.nm 7) (iF r1D (eVar 1)) B__law_words_0)
  T__law_words_6))
theorem draw_call {i : Nat} {ρ : En} (n : Nat) (hs : smAt i ρ = true) (hn : 0 < n) (hb : n < 1073741824) : (eCallS i m__law_draw (aC (eC (.int (n : Int))) a0) ρ).All fun d => ∃ k : Nat, k < n ∧ d = .int (k : Int) := by
  rw [u__law_draw]
  refine callS_all hs rfl (draw_all hn hb) ?_
  rintro v ⟨k, hk, rfl⟩
  exact ⟨k, hk, rfl⟩
theorem size_all (ρ : Frm) (n : Nat) (hs : smAt 0 (purE ρ) = true) (hn : 0 < n) (hb : n < 1073741824) : (sSet 2 (e2 addD (eC (.int 1)) (eCallS 0 m__law_draw (aC (eC (.int (n : Int))) a0))) ρ).All fun fl => ∃ ρ', fl = .next ρ' ∧ ∃ k : Nat, 1 ≤ k ∧ k ≤ n ∧ ρ' = ρ.set 2 (.val (.int (k : Int))) := by
  refine (set_all (R := fun d => ∃ k : Nat, 1 ≤ k ∧ k ≤ n ∧ d = .int (k : Int)) ?_).imp ?_
  · show ((Res.ok (PyData.int 1)).bind fun x => (eCallS 0 m__law_draw (aC (eC (.int (n : Int))) a0) (purE ρ)).bind fun y => addD x y).All _
    refine (draw_call n hs hn hb).bind ?_
    rintro d ⟨k, hk, rfl⟩
    exact ⟨1 + k, by omega, by omega, by show PyData.int (1 + (k : Int)) = _; congr 1⟩
  · rintro fl ⟨ρ', e, d, ⟨k, h1, h2, rfl⟩, rfl⟩
    exact ⟨_, e, k, h1, h2, rfl⟩
theorem test_all (ρ : En) (n : Nat) (hs : smAt 0 ρ = true) (hn : 0 < n) (hb : n < 1073741824) : (tE boolD (e2 eqD (eCallS 0 m__law_draw (aC (eC (.int (n : Int))) a0)) (eC (.int 0))) ρ).All fun _ => True := by
  show (((eCallS 0 m__law_draw (aC (eC (.int (n : Int))) a0) ρ).bind fun x => (Res.ok (PyData.int 0)).bind fun y => eqD x y).bind boolD).All _
  refine ((draw_call n hs hn hb).bind (Q := fun d => ∃ b, d = .bool b) ?_).bind ?_
  · rintro d ⟨k, hk, rfl⟩
    exact ⟨_, rfl⟩
  · rintro d ⟨b, rfl⟩
    exact True.intro
theorem word_size (ρ : Frm) (k0 : Nat) (h0 : 1 ≤ k0 ∧ k0 ≤ 12) (hs : smAt 0 (purE ρ) = true) (hs2 : smAt 0 (frzE ρ) = true) (hk : ρ.set 2 (.val (.int (k0 : Int))) = ρ) : (sIf (tE boolD (e2 eqD (eCallS 0 m__law_draw (aC (eC (.int 6)) a0)) (eC (.int 0)))) (sSet 2 (e2 addD (eC (.int 1)) (eCallS 0 m__law_draw (aC (eC (.int 12)) a0)))) sNext ρ).All fun fl => ∃ ρ', fl = .next ρ' ∧ ∃ k : Nat, 1 ≤ k ∧ k ≤ 12 ∧ ρ' = ρ.set 2 (.val (.int (k : Int))) := by
  refine if_all (R := fun _ => True) (test_all _ 6 hs2 (by decide) (by decide)) fun b _ => ?_
  cases b with
  | true => exact size_all ρ 12 hs (by decide) (by decide)
  | false => exact ⟨ρ, rfl, k0, h0.1, h0.2, hk.symm⟩
theorem chars_of : ∀ ys : List Pyr.D, (∀ y ∈ ys, ∃ j, j < 36 ∧ y = .str (ofL [lc j])) → ∃ cs : List Nat, (∀ c ∈ cs, c ∈ lets.cps.toList) ∧ cs.length = ys.length ∧ ys = cs.map fun c => PyData.str (ofL [c])
  | [], _ => ⟨[], (fun c hc => nomatch hc), rfl, rfl⟩
  | y :: ys, h => by
    obtain ⟨j, hj, rfl⟩ := h y List.mem_cons_self
    obtain ⟨cs, h1, h2, h3⟩ := chars_of ys fun z hz => h z (List.mem_cons_of_mem _ hz)
    refine ⟨lc j :: cs, fun c hc => ?_, congrArg (· + 1) h2, by rw [List.map_cons, ← h3]⟩
    rcases List.mem_cons.mp hc with rfl | hc
    · exact lc_in hj
    · exact h1 c hc
end
end Com5
set_option Elab.async false
set_option autoImplicit false
set_option linter.all false
set_option maxRecDepth 100000
set_option maxHeartbeats 1000000
namespace Pyr
open PySem PySem.Spec PyProof.Rows L2 Evl
structure Al {α : Type} (r : Res α) (R : α → Prop) : Prop where
  h : r.All R
section
variable {α β : Type} {r : Res α} {R : α → Prop}
theorem Al.bind {k : α → Res β} {Q : β → Prop} (h : Al r R) (h2 : ∀ a, R a → Al (k a) Q) : Al (r.bind k) Q := ⟨Res.All.bind h.h fun a ha => (h2 a ha).h⟩
theorem Al.imp {Q : α → Prop} (h : Al r R) (h2 : ∀ a, R a → Q a) : Al r Q := ⟨Res.All.imp h.h h2⟩
theorem Al.map {f : α → β} {Q : β → Prop} (h : Al r R) (h2 : ∀ a, R a → Q (f a)) : Al (r.map f) Q := ⟨Res.All.map h.h h2⟩
theorem Al.ok {a : α} (h : R a) : Al (.ok a) R := ⟨h⟩
theorem Al.eq {a : α} (e : r = .ok a) (h : R a) : Al r R := ⟨by rw [e]; exact h⟩
theorem Al.bare (h : Al r R) : Al (bare r) R := ⟨bare_all h.h⟩
end
theorem Al.outR {r : Res Fl} {R : RV → Prop} (h : Al r fun fl => (∃ ρ, fl = .next ρ ∧ R (.val .none)) ∨ ∃ v, fl = .ret v ∧ R v) : Al (outR r) R := ⟨outR_all h.h⟩
section
variable {fe : En → Res D} {fl : En → Res (List D)} {ft : En → Res Bool} {ρ : Frm} {F1 F2 : Frm → Res Fl}
theorem seq_al {R : Frm → Prop} {Q : Fl → Prop} (h : Al (F1 ρ) fun fl => ∃ ρ', fl = .next ρ' ∧ R ρ') (h2 : ∀ ρ', R ρ' → Al (F2 ρ') Q) : Al (sSeq F1 F2 ρ) Q := ⟨seq_all h.h fun ρ' hr => (h2 ρ' hr).h⟩
theorem set_al {i : Nat} {R : D → Prop} (h : Al (fe (purE ρ)) R) : Al (sSet i fe ρ) fun fl => ∃ ρ', fl = .next ρ' ∧ ∃ d, R d ∧ ρ' = ρ.set i (.val d) := ⟨set_all h.h⟩
theorem if_al {R : Bool → Prop} {Q : Fl → Prop} (h : Al (ft (frzE ρ)) R) (h2 : ∀ b, R b → Al (if b then F1 ρ else F2 ρ) Q) : Al (sIf ft F1 F2 ρ) Q := ⟨if_all h.h fun b hb => (h2 b hb).h⟩
theorem ret_al {R : D → Prop} (h : Al (fe (purE ρ)) R) : Al (sRet fe ρ) fun fl => ∃ d, R d ∧ fl = .ret (.val d) := ⟨ret_all h.h⟩
theorem seq_alS {i : Nat} {R : D → Prop} {Q : Fl → Prop} (h : Al (fe (purE ρ)) R) (h2 : ∀ d, R d → Al (F2 (ρ.set i (.val d))) Q) : Al (sSeq (sSet i fe) F2 ρ) Q := seq_al (R := fun ρ' => ∃ d, R d ∧ ρ' = ρ.set i (.val d)) (set_al h) fun ρ' ⟨d, hd, e⟩ => by
  rw [e]
  exact h2 d hd
theorem compF_al {t : Tg} {tt : En → Res Bool} {fe : En → Res D} {ρ : En} (R : D → Prop) (ds : List D) (h : ∀ d ∈ ds, ∃ ρ1, tgE t d ρ = .ok ρ1 ∧ tt ρ1 = .ok true ∧ Al (fe ρ1) R) : Al (compF t tt fe ρ ds) fun ys => ys.length = ds.length ∧ ∀ y ∈ ys, R y :=
  ⟨compF_all R ds fun d hd => let ⟨ρ1, e1, e2, h1⟩ := h d hd; ⟨ρ1, e1, e2, h1.h⟩⟩
theorem forF_al {t : Tg} {F : Frm → Res Fl} (I : Nat → Frm → Prop) (ds : List D) (i : Nat) (ρ : Frm) (h : I i ρ)
    (step : ∀ (j : Nat) (d : D) (ρ : Frm), ds[j]? = some d → I (i + j) ρ → ∃ ρ1, tgF t d ρ = .ok ρ1 ∧ Al (F ρ1) fun fl => ∃ ρ2, (fl = .next ρ2 ∨ fl = .cont ρ2) ∧ I (i + j + 1) ρ2) :
    Al (forF t F ds ρ) fun fl => ∃ ρ', fl = .next ρ' ∧ I (i + ds.length) ρ' := ⟨forF_all I ds i ρ h fun j d ρ hd hi => let ⟨ρ1, e, h1⟩ := step j d ρ hd hi; ⟨ρ1, e, h1.h⟩⟩
theorem forR_alN {t : Tg} {fi : En → Res (List D)} {F : Frm → Res Fl} {Q : Fl → Prop} (n : Nat) (h : fi (frzE ρ) = .ok (upto 0 n)) (go : Al (forF t F (upto 0 n) ρ) Q) : Al (sForR t fi F ρ) Q := by
  rw [forR_ok h (upto_flat n 0)]
  exact go
theorem lComp_al {own : List Nat} {t : Tg} {fi : En → Res (List D)} {tt : En → Res Bool} {fe : En → Res D} {ρ : En} {ds : List D} {R : List D → Prop} (h : fi ρ = .ok ds) (hl : ds.length ≤ 100000) (hc : Al (compF t tt fe (wipeE ρ own) ds) R) : Al (lComp own t fi tt fe ρ) R := ⟨lComp_all h hl hc.h⟩
theorem callS_al {i : Nat} {m : List D → Res RV} {fr : En → Res (List D)} {ρ : En} {ds : List D} {R : RV → Prop} {Q : D → Prop} (hs : smAt i ρ = true) (h : fr ρ = .ok ds) (hm : Al (m ds) R) (hq : ∀ v, R v → Q v.d) : Al (eCallS i m fr ρ) Q := ⟨callS_all hs h hm.h hq⟩
theorem e2_al {g : D → D → Res D} {fa fb : En → Res D} {ρ : En} {x : D} {R Q : D → Prop} (ha : fa ρ = .ok x) (hb : Al (fb ρ) R) (h : ∀ y, R y → Al (g x y) Q) : Al (e2 g fa fb ρ) Q := ⟨by
  show ((fa ρ).bind fun x => (fb ρ).bind fun y => g x y).All Q
  rw [ha]
  exact (hb.bind h).h⟩
theorem e2_al2 {g : D → D → Res D} {fa fb : En → Res D} {ρ : En} {y : D} {R Q : D → Prop} (ha : Al (fa ρ) R) (hb : fb ρ = .ok y) (h : ∀ x, R x → Al (g x y) Q) : Al (e2 g fa fb ρ) Q := ⟨by
  show ((fa ρ).bind fun x => (fb ρ).bind fun y => g x y).All Q
  rw [hb]
  exact (ha.bind h).h⟩
end
end Pyr
set_option Elab.async false
set_option autoImplicit false
set_option linter.all false
set_option maxRecDepth 100000
set_option maxHeartbeats 4000000
namespace Com5
noncomputable section
open PySem PySem.Spec PyProof.Rows L2 Evl Pyr Com2
theorem draw_al {i : Nat} {ρ : En} (n : Nat) (hs : smAt i ρ = true) (hn : 0 < n) (hb : n < 1073741824) : Al (eCallS i m__law_draw (aC (eC (.int (n : Int))) a0) ρ) fun d => ∃ k : Nat, k < n ∧ d = .int (k : Int) := ⟨draw_call n hs hn hb⟩
theorem str36 (i : Nat) (ρ : En) (L : Str) (hs : smAt 0 ρ = true) (h1 : eVar i ρ = .ok (.str L)) (hL : ∀ j : Nat, j < 36 → atD (.str L) (.int (j : Int)) = .ok (.str (ofL [lc j]))) : Al (e2 atD (eVar i) (eCallS 0 m__law_draw (aC (eC (.int 36)) a0)) ρ) fun y => ∃ j, j < 36 ∧ y = PyData.str (ofL [lc j]) := by
  have h36 := draw_al (i := 0) (ρ := ρ) 36 hs (by decide) (by decide)
  refine e2_al h1 h36 fun z ⟨j, hj, e⟩ => ?_
  rw [e]
  exact .eq (hL j hj) ⟨j, hj, Eq.refl _⟩
theorem join_al (a : Str) (f : En → Res (List Pyr.D)) (ρ : En) (R : List Pyr.D → Prop) (Q : Pyr.D → Prop) (h : Al (f ρ) R) (hj : ∀ ys, R ys → Al (joinD a (.list ys)) Q) : Al (eJoin (eC (.str a)) (eL f) ρ) Q := by
  have ej : eJoin (eC (.str a)) (eL f) ρ = ((f ρ).map PyData.list).bind (joinD a) := rfl
  rw [ej]
  exact (h.map (Q := fun d => ∃ ys, R ys ∧ d = .list ys) fun ys h => ⟨ys, h, rfl⟩).bind fun d ⟨ys, h, e⟩ => by
    rw [e]
    exact hj ys h
theorem word_text (L : Str) (hL : ∀ j : Nat, j < 36 → atD (.str L) (.int (j : Int)) = .ok (.str (ofL [lc j]))) (k : Nat) (h1 : 1 ≤ k) (h2 : k ≤ 12) (s3 : Sl) : Al (eJoin (eC (.str "")) (eL (lComp [3] (Tg.nm 3) (iF r1D (eVar 2)) tYesR (e2 atD (eVar 1) (eCallS 0 m__law_draw (aC (eC (.int 36)) a0))))) (purE [.own .strm, .val (.str L), .val (.int (k : Int)), s3])) fun d => ∃ x, d = .str x ∧ Wd x := by
  have hr : r1D (.int (k : Int)) = .ok (upto 0 k) := r1D_nat (show k ≤ 100000 by omega)
  have hi : iF r1D (eVar 2) (purE [.own .strm, .val (.str L), .val (.int (k : Int)), s3]) = .ok (upto 0 k) := by dsimp! [eL, hr]
  have hlen : (upto 0 k).length ≤ 100000 := by rw [upto_len]; omega
  have hcf := compF_al (t := Tg.nm 3) (tt := tYesR) (fe := e2 atD (eVar 1) (eCallS 0 m__law_draw (aC (eC (.int 36)) a0))) (ρ := wipeE (purE [.own .strm, .val (.str L), .val (.int (k : Int)), s3]) [3]) (fun y => ∃ j, j < 36 ∧ y = PyData.str (ofL [lc j])) (upto 0 k) fun d hd => ⟨_, rfl, rfl, str36 1 _ L rfl rfl hL⟩
  have hc := lComp_al hi hlen hcf
  refine join_al _ _ _ _ _ hc fun ys hh => ?_
  obtain ⟨hl, hy⟩ := hh
  rw [upto_len] at hl
  obtain ⟨cs, c1, c2, rfl⟩ := chars_of ys hy
  exact .eq (joinD_chars cs (by omega)) ⟨_, rfl, by rw [ofL_len]; omega, by rw [ofL_len]; omega, fun c hc => c1 c (by rwa [ofL_tl] at hc)⟩
theorem size_al (ρ : Frm) (n : Nat) (hs : smAt 0 (purE ρ) = true) (hn : 0 < n) (hb : n < 1073741824) : Al (sSet 2 (e2 addD (eC (.int 1)) (eCallS 0 m__law_draw (aC (eC (.int (n : Int))) a0))) ρ) fun fl => ∃ ρ', fl = .next ρ' ∧ ∃ k : Nat, 1 ≤ k ∧ k ≤ n ∧ ρ' = ρ.set 2 (.val (.int (k : Int))) := ⟨size_all ρ n hs hn hb⟩
theorem wordsize_al (ρ : Frm) (k0 : Nat) (h0 : 1 ≤ k0 ∧ k0 ≤ 12) (hs : smAt 0 (purE ρ) = true) (hs2 : smAt 0 (frzE ρ) = true) (hk : ρ.set 2 (.val (.int (k0 : Int))) = ρ) : Al (sIf (tE boolD (e2 eqD (eCallS 0 m__law_draw (aC (eC (.int 6)) a0)) (eC (.int 0)))) (sSet 2 (e2 addD (eC (.int 1)) (eCallS 0 m__law_draw (aC (eC (.int 12)) a0)))) sNext ρ) fun fl => ∃ ρ', fl = .next ρ' ∧ ∃ k : Nat, 1 ≤ k ∧ k ≤ 12 ∧ ρ' = ρ.set 2 (.val (.int (k : Int))) := ⟨word_size ρ k0 h0 hs hs2 hk⟩
theorem word_al : Al (m__law_word []) fun r => ∃ x, r = .val (.str x) ∧ Wd x := by
  rw [u__law_word]
  have go : Al (F__law_word [.own .strm, .emp, .emp, .emp]) fun fl => ∃ d, (∃ x, d = .str x ∧ Wd x) ∧ fl = .ret (.val d) := by
    unfold F__law_word
    refine seq_al (R := fun ρ => ∃ L, (∀ j : Nat, j < 36 → atD (.str L) (.int (j : Int)) = .ok (.str (ofL [lc j]))) ∧ ρ = [.own .strm, .val (.str L), .emp, .emp]) (.eq (a := .next [.own .strm, .val (.str lets), .emp, .emp]) rfl ⟨_, rfl, lets, fun j hj => lc_at hj, rfl⟩) ?_
    rintro ρ ⟨L, hL, rfl⟩
    unfold T__law_word_1
    refine seq_al (size_al _ 2 rfl (by decide) (by decide)) ?_
    rintro ρ ⟨k, h1, h2, rfl⟩
    unfold T__law_word_2
    refine seq_al (wordsize_al _ k ⟨h1, by omega⟩ rfl rfl rfl) ?_
    rintro ρ ⟨k, h1, h2, e⟩
    have e : ρ = [.own .strm, .val (.str L), .val (.int (k : Int)), .emp] := e
    rw [e]
    unfold T__law_word_3
    exact ret_al (word_text L hL k h1 h2 .emp)
  show Al (outR (F__law_word [.own .strm, .emp, .emp, .emp])) _
  refine .outR (go.imp ?_)
  rintro fl ⟨d, ⟨x, rfl, hw⟩, rfl⟩
  exact .inr ⟨_, rfl, x, rfl, hw⟩
end
end Com5
set_option Elab.async false
set_option autoImplicit false
set_option linter.all false
set_option maxRecDepth 100000
set_option maxHeartbeats 4000000
namespace Com5
noncomputable section
open PySem PySem.Spec PyProof.Rows L2 Evl Pyr Com2
theorem let_app {x y : Str} (hx : LetS x) (hy : LetS y) : LetS (x ++ y) := fun c hc => by
  rw [Pyr.tl_app] at hc
  exact (List.mem_append.mp hc).elim (hx c) (hy c)
theorem let_cutF {x : Str} (hx : LetS x) (p : Nat) : LetS (cutS x none (some (p : Int))) := fun c hc => by
  rw [Com2.cut_front] at hc
  exact hx c (List.mem_of_mem_take hc)
theorem let_cutB {x : Str} (hx : LetS x) (p : Nat) : LetS (cutS x (some (p : Int)) none) := fun c hc => by
  rw [Com2.cut_back] at hc
  exact hx c (List.mem_of_mem_drop hc)
theorem let_one {j : Nat} (h : j < 36) : LetS (ofL [lc j]) := fun c hc => by
  rw [ofL_tl] at hc
  rw [List.mem_singleton.mp hc]
  exact lc_in h
theorem cutF_len (x : Str) (p : Nat) : (cutS x none (some (p : Int))).length = min p x.length := by rw [tl_len, Com2.cut_front, List.length_take, ← tl_len]
theorem cutB_len (x : Str) (p : Nat) : (cutS x (some (p : Int)) none).length = x.length - p := by rw [tl_len, Com2.cut_back, List.length_drop, ← tl_len]
theorem alike_al (L x t : Str) (p : Nat) (b : Bool) (hL : ∀ j : Nat, j < 36 → atD (.str L) (.int (j : Int)) = .ok (.str (ofL [lc j]))) (hx : Wd x) (ht : LetS t ∧ t.length ≤ 11) (hp : p ≤ t.length) (s1 s6 s7 : Sl) :
    Al (sIf (tE truD (eVar 5)) (sSet 8 (e2 addD (e2 addD (eSlice (eVar 3) oNone (oSome (eVar 4))) (e2 atD (eVar 2) (eCallS 0 m__law_draw (aC (eC (.int 36)) a0)))) (eSlice (eVar 3) (oSome (eVar 4)) oNone))) sNext [.own .strm, s1, .val (.str L), .val (.str t), .val (.int (p : Int)), .val (.bool b), s6, s7, .val (.str x)]) fun fl => ∃ ρ', fl = .next ρ' ∧ ∃ y, Wd y ∧ ρ' = [.own .strm, s1, .val (.str L), .val (.str t), .val (.int (p : Int)), .val (.bool b), s6, s7, .val (.str y)] := by
  refine if_al (R := fun c => c = b) (.eq (a := b) rfl rfl) fun c e => ?_
  rw [e]
  cases b with
  | false => exact .ok ⟨_, rfl, x, hx, rfl⟩
  | true =>
    refine (set_al (R := fun d => ∃ y, Wd y ∧ d = .str y) ?_).imp ?_
    · refine e2_al2 (y := .str (cutS t (some (p : Int)) none)) (R := fun d => ∃ j, j < 36 ∧ d = .str (cutS t none (some (p : Int)) ++ ofL [lc j])) (e2_al (x := .str (cutS t none (some (p : Int)))) (by dsimp! [eL, sliceD]) (str36 2 _ L rfl rfl hL) ?_) (by dsimp! [eL, sliceD]) ?_
      · rintro y ⟨j, hj, rfl⟩
        refine .eq (a := .str (cutS t none (some (p : Int)) ++ ofL [lc j])) ?_ ⟨j, hj, rfl⟩
        show okL _ _ = _
        rw [okL_ok]
        refine Nat.le_trans (m := 1000) ?_ (by decide)
        rw [cutF_len, ofL_len, List.length_singleton]
        omega
      · rintro y ⟨j, hj, rfl⟩
        have len : (cutS t none (some (p : Int)) ++ ofL [lc j]).length = p + 1 := by
          rw [Pyr.app_len, cutF_len, ofL_len, List.length_singleton]
          omega
        refine .eq (a := .str (cutS t none (some (p : Int)) ++ ofL [lc j] ++ cutS t (some (p : Int)) none)) ?_ ⟨_, ⟨?_, ?_, let_app (let_app (let_cutF ht.1 p) (let_one hj)) (let_cutB ht.1 p)⟩, rfl⟩
        · show okL _ _ = _
          rw [okL_ok]
          refine Nat.le_trans (m := 1000) ?_ (by decide)
          rw [len, cutB_len]
          omega
        · rw [Pyr.app_len, len]
          omega
        · rw [Pyr.app_len, len, cutB_len]
          omega
    · rintro fl ⟨ρ', e, d, ⟨y, hy, rfl⟩, rfl⟩
      exact ⟨_, e, y, hy, rfl⟩
def WsOk (n : Nat) (ws : List Str) : Prop := ws.length ≤ n ∧ (∀ w ∈ ws, Wd w) ∧ ws.Nodup
theorem words_turn (n j : Nat) (L t : Str) (p : Nat) (b : Bool) (hL : ∀ j : Nat, j < 36 → atD (.str L) (.int (j : Int)) = .ok (.str (ofL [lc j]))) (ht : LetS t ∧ t.length ≤ 11) (hp : p ≤ t.length) (ws : List Str) (hw : WsOk j ws) (h1 : 0 < j → 1 ≤ ws.length) (hj : j < 1000) (s1 s7 s8 : Sl) :
    Al (B__law_words_0 [.own .strm, s1, .val (.str L), .val (.str t), .val (.int (p : Int)), .val (.bool b), .own (.lst (ws.map .str)), s7, s8]) fun fl => ∃ ρ', (fl = .next ρ' ∨ fl = .cont ρ') ∧ ∃ ws, WsOk (j + 1) ws ∧ 1 ≤ ws.length ∧ ρ' = [.own .strm, s1, .val (.str L), .val (.str t), .val (.int (p : Int)), .val (.bool b), .own (.lst (ws.map .str)), .emp, .emp] := by
  unfold B__law_words_0
  refine seq_alS (R := fun d => ∃ x, d = .str x ∧ Wd x) (callS_al (ds := []) rfl rfl word_al ?_) ?_
  · rintro v ⟨x, rfl, hx⟩
    exact ⟨x, rfl, hx⟩
  rintro d ⟨x, rfl, hx⟩
  refine seq_al (alike_al L x t p b hL hx ht hp s1 _ s7) ?_
  rintro ρ ⟨y, hy, rfl⟩
  have hin : notInD (.str y) (.list (ws.map .str)) = .ok (.bool (!decide (y ∈ ws))) := strE.notInD hw.2.1 hy
  refine seq_al (R := fun ρ => ∃ ws, WsOk (j + 1) ws ∧ 1 ≤ ws.length ∧ ρ = [.own .strm, s1, .val (.str L), .val (.str t), .val (.int (p : Int)), .val (.bool b), .own (.lst (ws.map .str)), s7, .val (.str y)]) ?_ ?_
  · by_cases h : y ∈ ws
    · refine .eq (a := .next [.own .strm, s1, .val (.str L), .val (.str t), .val (.int (p : Int)), .val (.bool b), .own (.lst (ws.map .str)), s7, .val (.str y)]) ?_ ⟨_, rfl, ws, ⟨Nat.le_succ_of_le hw.1, hw.2⟩, ?_, rfl⟩
      · rw [if_ok (b := false) (by dsimp! [eL, hin, h])]
        rfl
      · exact List.length_pos_of_mem h
    · have hlen : ws.length < 100000 := Nat.lt_of_le_of_lt hw.1 (by omega)
      refine .eq (a := .next [.own .strm, s1, .val (.str L), .val (.str t), .val (.int (p : Int)), .val (.bool b), .own (.lst ((ws ++ [y]).map .str)), s7, .val (.str y)]) ?_ ⟨_, rfl, ws ++ [y], ⟨?_, ?_, ?_⟩, ?_, rfl⟩
      · rw [if_ok (b := true) (by dsimp! [eL, hin, h])]
        have hl2 : (ws.map PyData.str).length < 100000 := by rw [List.length_map]; exact hlen
        dsimp! [eL, hl2, List.map_append, List.map_cons, List.map_nil, List.length_map]
      · rw [List.length_append]
        exact Nat.succ_le_succ hw.1
      · intro w hw2
        rcases List.mem_append.mp hw2 with h2 | h2
        · exact hw.2.1 w h2
        · rw [List.mem_singleton.mp h2]
          exact hy
      · refine List.nodup_append.mpr ⟨hw.2.2, List.pairwise_singleton _ _, fun a ha c hc => ?_⟩
        rw [List.mem_singleton.mp hc]
        exact fun z => h (z ▸ ha)
      · rw [List.length_append]
        exact Nat.le_add_left _ _
  · rintro ρ ⟨ws, hw, h1, rfl⟩
    exact .ok ⟨_, .inl rfl, ws, hw, h1, rfl⟩
theorem words_loop (n : Nat) (hn : 1 ≤ n ∧ n ≤ 20) (L t : Str) (p : Nat) (b : Bool) (hL : ∀ j : Nat, j < 36 → atD (.str L) (.int (j : Int)) = .ok (.str (ofL [lc j]))) (ht : LetS t ∧ t.length ≤ 11) (hp : p ≤ t.length) :
    Al (T__law_words_5 [.own .strm, .val (.int (n : Int)), .val (.str L), .val (.str t), .val (.int (p : Int)), .val (.bool b), .own (.lst []), .emp, .emp]) fun fl => ∃ ws, WsOk n ws ∧ 1 ≤ ws.length ∧ fl = .ret (.own (ws.map .str)) := by
  have e5 : T__law_words_5 [.own .strm, .val (.int (n : Int)), .val (.str L), .val (.str t), .val (.int (p : Int)), .val (.bool b), .own (.lst []), .emp, .emp] = (sSeq (sForR (Tg.nm 7) (iF r1D (eVar 1)) B__law_words_0) T__law_words_6) [.own .strm, .val (.int (n : Int)), .val (.str L), .val (.str t), .val (.int (p : Int)), .val (.bool b), .own (.lst []), .emp, .emp] := by
    unfold T__law_words_5
    rfl
  rw [e5]
  have hl := forF_al (t := Tg.nm 7) (F := B__law_words_0) (fun j ρ => ∃ ws, WsOk j ws ∧ (0 < j → 1 ≤ ws.length) ∧ ρ = [.own .strm, .val (.int (n : Int)), .val (.str L), .val (.str t), .val (.int (p : Int)), .val (.bool b), .own (.lst (ws.map .str)), .emp, .emp]) (upto 0 n) 0 _ ⟨[], ⟨Nat.le_refl _, (fun w h => nomatch h), List.nodup_nil⟩, (fun h => absurd h (by decide)), rfl⟩ fun j d ρ hd hi => by
    obtain ⟨ws, hw, h1, rfl⟩ := hi
    have hj : j < n := by
      have := (List.getElem?_eq_some_iff.mp hd).1
      rwa [upto_len] at this
    refine ⟨_, rfl, ?_⟩
    refine (words_turn n (0 + j) L t p b hL ht hp ws hw h1 (by omega) _ _ _).imp ?_
    rintro fl ⟨ρ', e, ws, hw, h1, e2⟩
    exact ⟨ρ', e, ws, hw, fun _ => h1, e2⟩
  rw [upto_len] at hl
  refine seq_al (R := fun ρ => ∃ ws, WsOk n ws ∧ 1 ≤ ws.length ∧ ρ = [.own .strm, .val (.int (n : Int)), .val (.str L), .val (.str t), .val (.int (p : Int)), .val (.bool b), .own (.lst (ws.map .str)), .emp, .emp]) ?_ ?_
  · refine forR_alN n ?_ (hl.imp ?_)
    · have hr : r1D (.int (n : Int)) = .ok (upto 0 n) := r1D_nat (show n ≤ 100000 by omega)
      dsimp! [eL, hr]
    · rintro fl ⟨ρ', e, ws, hw, h1, e2⟩
      rw [Nat.zero_add] at hw h1
      exact ⟨ρ', e, ws, hw, h1 hn.1, e2⟩
  · rintro ρ ⟨ws, hw, h1, rfl⟩
    exact .ok ⟨ws, hw, h1, rfl⟩
end
end Com5
set_option Elab.async false
set_option autoImplicit false
set_option linter.all false
set_option maxRecDepth 100000
set_option maxHeartbeats 4000000
namespace Com5
noncomputable section
open PySem PySem.Spec PyProof.Rows L2 Evl Pyr Com2
inductive Itm where
  | inl (x : Str)
  | inr (f : Ft)
instance itDec : DecidableEq Itm := fun _ _ => Classical.propDecidable _
end
end Com5
set_option Elab.async false
set_option autoImplicit false
set_option linter.all false
set_option maxRecDepth 100000
set_option maxHeartbeats 4000000
namespace Com5
noncomputable section
open PySem PySem.Spec PyProof.Rows L2 Evl Pyr Com2
structure StOk (n : Nat) (P : Itm → Prop) (acc : List Itm) : Prop where
  nd : acc.Nodup
  ok : ∀ x ∈ acc, P x
  len : acc.length ≤ n
end
end Com5
set_option Elab.async false
set_option autoImplicit false
set_option linter.all false
set_option maxRecDepth 100000
set_option maxHeartbeats 4000000
namespace Com5
noncomputable section
open PySem PySem.Spec PyProof.Rows L2 Evl Pyr Com2
end
end Com5
set_option Elab.async false
set_option autoImplicit false
set_option linter.all false
set_option maxRecDepth 100000
set_option maxHeartbeats 1000000
namespace PySem.SeqAt
open AutoSeq1 (wpAny_loadPart')
open MeetsSeq MeetsSeq2 MeetsSeq3 SeqRoads2
section
variable {prog : Program} {w : World}
end
end PySem.SeqAt
namespace Pyr
open PySem PySem.Spec PyProof.Rows L2 Evl
section
variable {TS : TabList} {X : Cx} {o e : Expr} {fo fe : En → Res D} {apos cpos : Pos}
end
end Pyr
set_option Elab.async false
set_option autoImplicit false
set_option linter.all false
set_option maxRecDepth 100000
set_option maxHeartbeats 1000000
namespace Pyr
open PySem PySem.Spec PyProof.Rows L2 Evl
section
variable {TS : TabList} {K : PySem.W.Frag} {G H G1 H1 : Hp}
end
section
variable {TS : TabList} {X : Cx} {W : WX} {e : Expr} {fl : En → Res (List Pyr.D)} {pos : Pos}
variable {G_0 H_0 G H G1 H1 : Hp} {ρ : Frm} {σ : L2.St} {fp : Nat → List Addr} {D : Ends}
end
end Pyr
set_option Elab.async false
set_option autoImplicit false
set_option linter.all false
set_option maxRecDepth 100000
set_option maxHeartbeats 4000000
namespace Com5
noncomputable section
open PySem PySem.Spec PyProof.Rows L2 Evl Pyr Com2
end
end Com5
set_option Elab.async false
set_option autoImplicit false
set_option linter.all false
set_option maxRecDepth 100000
set_option maxHeartbeats 1000000
namespace Pyr
open PySem PySem.Spec PyProof.Rows L2 Evl
section
variable {TS : TabList} {X : Cx} {a : Expr} {fa : En → Res D} {pos : Pos} {es : List Expr} {fr : En → Res (List D)}
end
inductive PairV (K : PySem.W.Frag) (H : Hp) : List V → List (Key × V) → Prop
  | nil : PairV K H [] []
  | cons {b : Addr} {k : Key} {v : V} {xs : List V} {kvs : List (Key × V)} : SqT K H b [kV k, v] → PairV K H xs kvs → PairV K H (.ref b :: xs) ((k, v) :: kvs)
theorem PairV.len {K : PySem.W.Frag} {H : Hp} : ∀ {xs : List V} {kvs : List (Key × V)}, PairV K H xs kvs → xs.length = kvs.length
  | _, _, .nil => rfl
  | _, _, .cons _ r => congrArg (· + 1) (PairV.len r)
theorem relV_key {k : Key} {u : Value} (h : L2.RelV (kV k) u) : keyIs k u = true := by
  cases k with
  | inl i =>
    obtain ⟨t, rfl⟩ := h
    exact keyIs_int i t
  | inr x =>
    obtain ⟨t, rfl⟩ := h
    exact keyIs_str x t
theorem PairV.laid {X : Cx} {pins : List (Addr × Obj)} {σ : L2.St} {H : Hp} {s : Shared} (I : Inv X pins σ H s) : ∀ {xs : List V} {kvs : List (Key × V)} {its : List Value}, PairV X.K H xs kvs → Vals xs its →
    ∃ (bs : List Addr) (ps : List (Value × Value)) (rs : List (Key × Value)), its = bs.map Value.ref ∧ ps.length = bs.length ∧ rs.length = ps.length ∧ L2.KV kvs rs ∧
      ∀ (j : Nat) (k v : Value), ps[j]? = some (k, v) → (∃ b, bs[j]? = some b ∧ s.heap.IsTuple b #[k, v]) ∧ ∃ kk, rs[j]? = some (kk, v) ∧ keyIs kk k = true
  | _, _, _, .nil, r => by
    cases r
    exact ⟨[], [], [], rfl, rfl, rfl, .nil, fun j k v h => by simp at h⟩
  | _, _, _, .cons (b := b) (k := kk) (v := v) h hs, r => by
    cases r with
    | cons r1 r2 =>
      obtain ⟨bs, ps, rs, e1, e2, e3, e4, e5⟩ := PairV.laid I hs r2
      rename_i u us
      have r1 : u = Value.ref b := r1
      subst r1
      obtain ⟨its, r', pl, _⟩ := I.tuple h
      obtain ⟨k1, v1, rfl, q1, q3⟩ : ∃ u1 u2, its = [u1, u2] ∧ L2.RelV (kV kk) u1 ∧ L2.RelV v u2 := by
        cases r' with
        | cons q1 q2 =>
          cases q2 with
          | cons q3 q4 =>
            cases q4
            exact ⟨_, _, rfl, q1, q3⟩
      refine ⟨b :: bs, (k1, v1) :: ps, (kk, v1) :: rs, by rw [e1]; rfl, congrArg (· + 1) e2, congrArg (· + 1) e3, .cons ⟨rfl, q3⟩ e4, fun j k w hj => ?_⟩
      cases j with
      | zero =>
        have hj : (k1, v1) = (k, w) := by simpa using hj
        cases hj
        exact ⟨⟨b, rfl, pl⟩, kk, rfl, relV_key q1⟩
      | succ j => exact e5 j k w (by simpa using hj)
section
variable {TS : TabList} {X : Cx} {a : Expr} {fa : En → Res D} {pos : Pos}
end
end Pyr
set_option Elab.async false
set_option autoImplicit false
set_option linter.all false
set_option maxRecDepth 100000
set_option maxHeartbeats 4000000
namespace Com5
noncomputable section
open PySem PySem.Spec PyProof.Rows L2 Evl Pyr Com2 Com3
def TmIn (ws : List Str) (ns : List Nat) (t : Com3.Tm) : Prop := (∀ n, t = .var n → n ∈ ns) ∧ ∀ w, t = .word w → w ∈ ws
theorem TmIn.ok {ws : List Str} {ns : List Nat} {t : Com3.Tm} (h : TmIn ws ns t) (hw : ∀ w ∈ ws, Wd w) (hn : ∀ n ∈ ns, n < 8) : TmOk t := by
  cases t with
  | var n => exact hn n (h.1 n rfl)
  | word w => exact hw w (h.2 w rfl)
abbrev Cnd := Com3.Tm × Bool × Com3.Tm
def CnIn (ws : List Str) (ns : List Nat) (c : Cnd) : Prop := TmIn ws ns c.1 ∧ TmIn ws ns c.2.2
structure RlOk (ws : List Str) (S : List Tb) (w : Nat) (hd : List Com3.Tm) (as : List Com3.Am) (cs : List Cnd) : Prop where
  one : 1 ≤ as.length
  three : as.length ≤ 3
  ok : Com3.AsOk as
  tb : ∀ a ∈ as, (∃ t ∈ S, t.1 = a.1 ∧ a.2.length = t.2.1) ∧ ∀ v, Com3.Tm.word v ∈ a.2 → v ∈ ws
  wd : hd.length = w
  hd : ∀ t ∈ hd, TmIn ws (varsR as) t
  few : cs.length ≤ 3
  cs : ∀ c ∈ cs, CnIn ws (varsR as) c
end
end Com5
set_option Elab.async false
set_option autoImplicit false
set_option linter.all false
set_option maxRecDepth 100000
set_option maxHeartbeats 4000000
namespace Com5
noncomputable section
open PySem PySem.Spec PyProof.Rows L2 Evl Pyr Com2 Com3
end
end Com5
set_option Elab.async false
set_option autoImplicit false
set_option linter.all false
set_option maxRecDepth 100000
set_option maxHeartbeats 1000000
namespace Pyr
open PySem PySem.Spec PyProof.Rows L2 Evl
section
variable {prog : Program} {w : World} {κ : Type} [DecidableEq κ] {knd : KeyKind prog w κ} {A : Around} {E : Value → Shared → Prop} {s : Shared}
end
end Pyr
set_option Elab.async false
set_option autoImplicit false
set_option linter.all false
set_option maxRecDepth 100000
set_option maxHeartbeats 1000000
namespace Pyr
open PySem PySem.Spec PyProof.Rows L2 Evl
section
variable {X : Cx} {a b : Expr} {ta tb : TE} {pos : Pos}
end
section
variable {TS : TabList} {X : Cx} {pos p1 p2 : Pos} {x y : Str}
end
end Pyr
set_option Elab.async false
set_option autoImplicit false
set_option linter.all false
set_option maxRecDepth 100000
set_option maxHeartbeats 1000000
namespace Pyr
open PySem PySem.Spec PyProof.Rows L2 Evl
section
variable {TS : TabList} {X : Cx} {a b c : Expr} {fa fb fc : En → Res D} {apos cpos : Pos}
end
section
variable {TS : TabList} {X : Cx} {pos : Pos}
end
end Pyr
set_option Elab.async false
set_option autoImplicit false
set_option linter.all false
set_option maxRecDepth 100000
set_option maxHeartbeats 1000000
namespace Pyr
open PySem PySem.Spec PyProof.Rows L2 Evl RZ
section
variable {TS : TabList} {X : Cx} {W : WX} {tg iter : Expr} {fi : En → Res (List D)} {F : Frm → Res Fl} {body : List Stmt} {pos : Pos} {t : Tr}
end
section
variable {TS : TabList} {X : Cx} {a b : Expr} {fa fb : En → Res D} {pos tpos p : Pos} {elts : List Expr} {kk : Nat}
end
end Pyr
set_option Elab.async false
set_option autoImplicit false
set_option linter.all false
set_option maxRecDepth 100000
set_option maxHeartbeats 1000000
namespace Pyr
open PySem PySem.Spec PyProof.Rows L2 Evl
open L2.DX (itemsO itemsO_ok)
def itemsT (es : List (D × D)) : List D := es.map fun e => .tuple [e.1, e.2]
section
variable {TS : TabList} {X : Cx}
variable {a : Expr} {fa : En → Res D}
end
end Pyr
set_option Elab.async false
set_option autoImplicit false
set_option linter.all false
set_option maxRecDepth 100000
set_option maxHeartbeats 1000000
namespace Pyr
open PySem PySem.Spec PyProof.Rows L2 Evl
theorem RpOs.len {K : PySem.W.Frag} {G H : Hp} : ∀ {l : List Addr} {us : List V} {dss : List (List D)}, RpOs K G H l us dss → us.length = l.length ∧ dss.length = l.length
  | _, _, _, .nil => ⟨rfl, rfl⟩
  | _, _, _, .cons _ _ _ q => ⟨congrArg (· + 1) q.len.1, congrArg (· + 1) q.len.2⟩
section
variable {TS : TabList} {K : PySem.W.Frag} {G_0 H_0 G H : Hp} {ρ : Frm} {σ : L2.St} {fp : Nat → List Addr}
end
section
variable {TS : TabList} {X : Cx} {kx vx : Expr} {fk fv : En → Res Pyr.D} {pos : Pos}
end
section
variable {TS : TabList} {K : PySem.W.Frag} {G_0 H_0 G H : Hp} {ρ : Frm} {σ : L2.St} {fp : Nat → List Addr}
end
section
variable {TS : TabList} {X : Cx} {rest : List Stmt} {F : Frm → Res Fl}
end
end Pyr
set_option Elab.async false
set_option autoImplicit false
set_option linter.all false
set_option maxRecDepth 100000
set_option maxHeartbeats 1000000
namespace Pyr
open PySem PySem.Spec PyProof.Rows L2 Evl
def gK {α : Type} (n m : Nat) (us ws : List α) : List α := if us.length = n ∧ ws.length = m then us ++ ws else []
structure KnownK (TS : TabList) (P : Program) (w : World) (K : PySem.W.Frag) (mg : Str → Option Value) (base : Heap) (k : Nat) (x : Str) (ps ks : List Str) (m : List D → Res RV) : Prop where
  ex : ∃ f fd, FnOk P w K mg base (L2N.CX P w) k f fd ps (spD TS K mg m) ∧ mg x = some (.ref f) ∧ PySem.W.keepIn K (.ref f) = true ∧ KBinds K fd ps ks (gK (ps.length - ks.length) ks.length) (gK (ps.length - ks.length) ks.length)
theorem KnownK.cast {TS : TabList} {P : Program} {w : World} {K : PySem.W.Frag} {mg : Str → Option Value} {base : Heap} {k : Nat} {x : Str} {ps ks : List Str} {m m' : List D → Res RV} (e : m = m') (h : KnownK TS P w K mg base k x ps ks m') : KnownK TS P w K mg base k x ps ks m := by
  rw [e]
  exact h
section
variable {TS : TabList} {X : Cx} {a e : Expr} {es : List Expr} {fr : En → Res (List D)} {fe : En → Res D} {pos p kpos : Pos} {x kn : Str} {ps : List Str} {k k' : Nat} {m : List D → Res RV}
end
section
variable {K : PySem.W.Frag} {mg : Str → Option Value} {h : Heap} {x : Str} {st : Stmt} {ps ks : List Str}
end
end Pyr
set_option Elab.async false
set_option autoImplicit false
set_option linter.all false
set_option maxRecDepth 100000
set_option maxHeartbeats 2000000
namespace Pyr
open PySem PySem.Spec PyProof.Rows L2 Evl
section
variable {TS : TabList} {X : Cx} {a b e : Expr} {fa fb : En → Res D} {pos : Pos}
end
end Pyr
set_option Elab.async false
set_option autoImplicit false
set_option linter.all false
set_option maxRecDepth 100000
set_option maxHeartbeats 2000000
namespace Pyr
open PySem PySem.Spec PyProof.Rows L2 Evl
def WalkO (TS : TabList) (K : PySem.W.Frag) (J : It) (ds : List D) (G H : Hp) : Prop := ∀ (G1 H1 : Hp), Gr TS G H G1 H1 →
  (∀ (i : Nat) (x : D), ds[i]? = some x → J.go i H1 ∧ ∀ v H', J.yld i H1 v H' → ∃ G', Gr TS G1 H1 G' H' ∧ Rp K G' v x) ∧ J.stop ds.length H1
structure DIO (TS : TabList) (X : Cx) (tg iter : Expr) (f : En → Res (List D)) : Prop where
  run : ∀ (W : WX) (ρ : En) (σ : L2.St) (G H : Hp) (R : It → Hp → Prop), Takes X W → RpE TS X.K G H ρ σ → Ok0 TS G H → PostG (fun _ G' H' J ds => WalkO TS X.K J ds G' H') TS X W σ G H (f ρ) R → wpIt X tg iter σ H R
instance {TS : TabList} {X : Cx} {tg iter : Expr} {f : En → Res (List D)} : CoeFun (DIO TS X tg iter f) fun _ => ∀ (W : WX) (ρ : En) (σ : L2.St) (G H : Hp) (R : It → Hp → Prop), Takes X W → RpE TS X.K G H ρ σ → Ok0 TS G H → PostG (fun _ G' H' J ds => WalkO TS X.K J ds G' H') TS X W σ G H (f ρ) R → wpIt X tg iter σ H R := ⟨DIO.run⟩
section
variable {TS : TabList} {X : Cx} {tg iter elt : Expr} {fi : En → Res (List D)} {tt : En → Res Bool} {fe : En → Res D} {ifs : List Expr} {pos : Pos} {t : Tg} {scope : Scope} {own : List (Str × Nat)}
end
end Pyr
set_option Elab.async false
set_option autoImplicit false
set_option linter.all false
set_option maxRecDepth 100000
set_option maxHeartbeats 8000000
namespace Pyr
open PySem PySem.Spec PyProof.Rows L2 Evl
section
variable {K : PySem.W.Frag} {G : Hp} {c : Addr} {u w : HO}
theorem RpKv.item : ∀ {ks : List (Key × V)} {es : List (D × D)} {i : Nat} {d : D}, RpKv K G ks es → (itemsT es)[i]? = some d → ∃ k v y, ks[i]? = some (k, v) ∧ d = .tuple [keyD k, y] ∧ Rp K G v y
  | _, _, _, _, .nil, h => nomatch h
  | _, _, 0, _, .cons r _, h => by
    cases h
    exact ⟨_, _, _, rfl, rfl, r⟩
  | _, _, i + 1, _, .cons _ rs, h => RpKv.item (i := i) rs h
end
section
variable {TS : TabList} {X : Cx} {tg iter kx vx : Expr} {fi : En → Res (List D)} {tt : En → Res Bool} {fk fv : En → Res D} {ifs : List Expr} {pos : Pos} {t : Tg} {scope : Scope} {own : List (Str × Nat)}
end
end Pyr
set_option Elab.async false
set_option autoImplicit false
set_option linter.all false
set_option maxRecDepth 100000
set_option maxHeartbeats 4000000
namespace Pyr
open PySem PySem.Spec PyProof.Rows L2 Evl
structure DM (TS : TabList) (X : Cx) (e : Expr) (f : En → Res (List D × D × List D)) : Prop where
  run : ∀ (W : WX) (ρ : En) (σ : L2.St) (G H : Hp) (Q : VK), Takes X W → RpE TS X.K G H ρ σ → Ok0 TS G H → PostG (RelM X.K) TS X W σ G H (f ρ) Q → wpE X e σ H Q
section
variable {TS : TabList} {X : Cx} {W : WX} {a b c e : Expr} {es rest : List Expr} {fa fc : En → Res (List D)} {fb fe : En → Res D} {fr : En → Res (List D)} {fm : En → Res (List D × D × List D)} {pos p : Pos} {x : Str} {ps : List Str} {k k' : Nat} {m : List D → Res RV} {F : Frm → Res Fl}
variable {G_0 H_0 G H G1 H1 : Hp} {ρ : Frm} {σ : L2.St} {fp : Nat → List Addr} {D : Ends}
variable {stm : List Stmt}
end
end Pyr
set_option Elab.async false
set_option autoImplicit false
set_option linter.all false
set_option maxRecDepth 100000
set_option maxHeartbeats 4000000
namespace Pyr
open PySem PySem.Spec PyProof.Rows L2 Evl HotX
open L2H (Hot1)
section
variable {prog : Program} {w : World} {A : Around} {E : Value → Shared → Prop} {s : Shared}
end
structure TurnG (p : Addr × Obj) (P : Program) (w : World) (K : PySem.W.Frag) (tg : Expr) (J : It) (fp : List Addr) (it : Addr) (tn : Nat → Heap → Prop) : Prop where
  mem : it ∈ fp
  obj : ∀ i h, tn i h → ∀ b ∈ fp, ∃ o, h.get? b = some o ∧ ∀ v, o.data ≠ .cell v
  keep : ∀ i h h', tn i h → (∀ b ∈ fp, ∀ o, h.get? b = some o → h'.get? b = some o) → tn i h'
  item : ∀ (X : Cx), X.prog = P → X.w = w → X.K = K → Hot1 X.A p → ∀ (i : Nat) (pins : List (Addr × Obj)), p ∈ X.pn ++ pins → ∀ (s : Shared) (σ : L2.St) (H : Hp) (E : Value → Shared → Prop), Inv X pins σ H s → (∀ b ∈ fp, FpOk X pins H b) → tn i s.heap → J.go i H →
    wpAny (model P w) X.A (pyNext (.ref it)) (fun r s1 => ∃ u, r = some u ∧ wpAny (model P w) X.A (letOwnedTupleGo tg (.ref it) u) (fun _ s2 => ∃ x H', Inv X pins σ H' s2 ∧ L2.RelV x u ∧ J.yld i H x H' ∧ tn (i + 1) s2.heap ∧ ∀ b ∈ fp, H' b = none) E s1) E s
  done : ∀ (X : Cx), X.prog = P → X.w = w → X.K = K → Hot1 X.A p → ∀ (i : Nat) (pins : List (Addr × Obj)), p ∈ X.pn ++ pins → ∀ (s : Shared) (σ : L2.St) (H : Hp) (E : Value → Shared → Prop), Inv X pins σ H s → (∀ b ∈ fp, FpOk X pins H b) → tn i s.heap → J.stop i H →
    wpAny (model P w) X.A (pyNext (.ref it)) (fun r s1 => r = none ∧ Inv X pins σ H s1) E s
  self : ∀ (A : Around) (i : Nat) (s : Shared) (Q : Value → Shared → Prop) (E : Value → Shared → Prop), tn i s.heap → Q (.ref it) s → wpAny (model P w) A (pyIter (.ref it)) Q E s
def PIEG (p : Addr × Obj) (X : Cx) (pins : List (Addr × Obj)) (σ : L2.St) (tg : Expr) (R : It → Hp → Prop) (v : Value) (s : Shared) : Prop :=
  ∃ (it : Addr) (fp : List Addr) (tn : Nat → Heap → Prop) (J : It) (H : Hp), v = .ref it ∧ Inv X pins σ H s ∧ TurnG p X.prog X.w X.K tg J fp it tn ∧ tn 0 s.heap ∧ (∀ b ∈ fp, FpOk X pins H b) ∧ R J H
structure PIG (p : Addr × Obj) (X : Cx) (tg iter : Expr) (wi : TI) : Prop where
  run : ∀ (pins : List (Addr × Obj)) (s : Shared) (σ : L2.St) (H : Hp) (R : It → Hp → Prop), Inv X pins σ H s → wi σ H R → wpAny (model X.prog X.w) X.A (eval iter X.env) (fun v s1 => wpAny (model X.prog X.w) X.A (pyIter v) (PIEG p X pins σ tg R) X.xe s1) X.xe s
section
variable {X : Cx} {tg : Expr} {p : Addr × Obj}
end
section
variable {X : Cx} {p : Addr × Obj} {elt tg iter : Expr} {ifs : List Expr} {gs : List Comprehension} {scope : Scope} {own : List (Str × Nat)} {pos : Pos} {wi : TI} {g : TG} {tt : TT} {body : Addr → TB} {B : Cx → Addr → BR} {vs1 : List Nat}
end
end Pyr
set_option Elab.async false
set_option autoImplicit false
set_option linter.all false
set_option maxRecDepth 100000
set_option maxHeartbeats 4000000
namespace Pyr
open PySem PySem.Spec PyProof.Rows L2 Evl HotX
open L2H (Hot1)
def wpItG (p : Addr × Obj) (X : Cx) (tg iter : Expr) : TI := fun σ H R => ∀ (pins : List (Addr × Obj)) (s : Shared), Inv X pins σ H s → wpAny (model X.prog X.w) X.A (eval iter X.env) (fun v s1 => wpAny (model X.prog X.w) X.A (pyIter v) (PIEG p X pins σ tg R) X.xe s1) X.xe s
structure DIG (TS : TabList) (p : Addr × Obj) (X : Cx) (tg iter : Expr) (f : En → Res (List D)) : Prop where
  run : ∀ (W : WX) (ρ : En) (σ : L2.St) (G H : Hp) (R : It → Hp → Prop), Takes X W → RpE TS X.K G H ρ σ → Ok0 TS G H → PostG (RelJ' TS X.K) TS X W σ G H (f ρ) R → wpItG p X tg iter σ H R
section
variable {TS : TabList} {X : Cx} {p : Addr × Obj} {a tg iter elt : Expr} {ifs : List Expr} {gs : List Comprehension} {scope : Scope} {own : List (Str × Nat)} {pos : Pos} {t : Tg} {fa fe : En → Res D} {fi : CF} {fb : CF} {tt : En → Res Bool} {body : Addr → TB} {B : Cx → Addr → BR} {vs1 : List Nat}
end
end Pyr
set_option Elab.async false
set_option autoImplicit false
set_option linter.all false
set_option maxRecDepth 100000
set_option maxHeartbeats 4000000
namespace Pyr
open PySem PySem.Spec PyProof.Rows L2 Evl HotX
open L2H (Hot1)
structure CtB (X : Cx) (p : Addr × Obj) : Prop where
  nd : X.N.Nodup
  un : X.A.units + 65 < cLine
  hot : Hot1 X.A p
  pn : p ∈ X.pn
section
variable {TS : TabList} {a : Addr} {c : Str} {G H G' H' : Hp}
end
def outV : Res Fl → Res RV
  | .ok (.ret v) => .ok v
  | .alt f => .alt fun i => outV (f i)
  | _ => .bad
section
variable {TS : TabList} {X : Cx} {W : WX} {p : Addr × Obj} {a : Addr} {e : Expr} {fe : En → Res D} {fl : En → Res (List D)} {pos : Pos}
theorem od_eqB (C : CtB X p) : OpD TS X (compareOp .Eq) eqD := by
  refine ⟨fun W σ v u x y G H Q ok rx ry q => ?_⟩
  unfold eqD at q
  split at q
  · rename_i h
    by_cases hs : scaD x y = true
    · obtain ⟨h1, h2⟩ := eq_eqv rx ry hs
      exact wpO_of op_eq ⟨h1, by rw [h2]; exact fin1 ok q (.bl _)⟩
    · rw [Bool.or_eq_true, Bool.and_eq_true] at h
      obtain ⟨hx, hy⟩ := h.resolve_left hs
      exact wpO_of (op_eqD (by have := C.un; omega)) ⟨x, y, (rx.mono ok.le).okdp hx, (ry.mono ok.le).okdp hy, okd_shaped hx, okd_shaped hy, fin1 ok q (.bl _)⟩
  · exact q.elim
theorem CtE.suite {oe : Obj} {pn : List (Addr × Obj)} {cls : Value} {d : Option Addr} (C : CtE X) (hz : L2N.Zn cls d oe) (hf : ∃ vs, oe.data = .fields vs) : CtB (X.suite a ((a, oe) :: pn)) (a, oe) :=
  let ⟨vs, e⟩ := hf
  ⟨C.nd, C.un, ⟨rfl, vs, e, hz.2.2 vs e⟩, List.mem_cons_self⟩
end
end Pyr
set_option Elab.async false
set_option autoImplicit false
set_option linter.all false
set_option maxRecDepth 100000
set_option maxHeartbeats 4000000
namespace Pyr
open PySem PySem.Spec PyProof.Rows L2 Evl HotX
open L2H (Hot1 HotC TurnH PIEH PIH)
section
variable {TS : TabList} {X : Cx} {q : Addr × Obj} {a tg : Expr} {fa : En → Res D} {pos : Pos}
end
section
variable {TS : TabList} {X : Cx} {p : Addr × Obj} {tg iter elt : Expr} {ifs : List Expr} {gs : List Comprehension} {scope : Scope} {own : List (Str × Nat)} {t : Tg} {fe : En → Res D} {fi : CF} {tt : En → Res Bool} {body : Addr → TB} {B : Cx → Addr → BR} {vs1 : List Nat} {pos : Pos}
end
end Pyr
set_option Elab.async false
set_option autoImplicit false
set_option linter.all false
set_option maxRecDepth 100000
set_option maxHeartbeats 4000000
namespace Pyr
open PySem PySem.Spec PyProof.Rows L2 Evl
section
variable {TS : TabList} {X : Cx} {pos : Pos}
end
end Pyr
set_option Elab.async false
set_option autoImplicit false
set_option linter.all false
set_option maxRecDepth 100000
set_option maxHeartbeats 4000000
namespace Pyr
open PySem PySem.Spec PyProof.Rows L2 Evl
section
variable {TS : TabList} {X : Cx} {W : WX} {e : Expr} {fe : En → Res Pyr.D} {pos : Pos}
variable {G_0 H_0 G H G1 H1 : Hp} {ρ : Frm} {σ : L2.St} {fp : Nat → List Addr} {D : Ends}
end
end Pyr
set_option Elab.async false
set_option autoImplicit false
set_option linter.all false
set_option maxRecDepth 100000
set_option maxHeartbeats 4000000
namespace Pyr
open PySem PySem.Spec PyProof.Rows L2 Evl
def sBad : Frm → Res Fl := fun _ => .bad
theorem ds_bad {TS : TabList} {X : Cx} {st : Stmt} : DSt TS X st sBad := ⟨fun _ _ _ _ _ _ _ _ _ _ _ p => p.elim⟩
mutual
def Tr.all : Tr → List Nat
  | .nm i => [i]
  | .tp ts => ts.all
def Trs.all : Trs → List Nat
  | .nil => []
  | .cons t ts => t.all ++ ts.all
end
section
variable {TS : TabList} {K : PySem.W.Frag} {G H : Hp}
end
section
variable {TS : TabList} {X : Cx} {tg iter elt : Expr} {fi : En → Res (List Pyr.D)} {tt : En → Res Bool} {fe : En → Res Pyr.D} {ifs : List Expr} {pos : Pos} {t : Tr} {scope : Scope} {own : List (Str × Nat)}
end
section
variable {TS : TabList} {X : Cx}
end
end Pyr
set_option Elab.async false
set_option linter.all false
set_option maxRecDepth 100000
namespace L2
open PySem PySem.Spec PyProof.Rows GenW
section
variable {M : Model} {A : Around} {R : GenEnd} {Y : Protocol} {n : Nat} {s₀ : Shared} {c : Code} {fs : List Frame} {s : Shared} {env : Env}
  {K : Flow → Sem PySem.Fin} {H : Value → Sem PySem.Fin} {gd : Bool → Bool} {lv : List Value → List Value}
theorem seg_For {target iter : Expr} {body orelse : List Stmt} {pos : Pos}
    (h : wpAny M (A.over c fs) (eval iter env) (fun x s₁ => wpAny M (A.over c fs) (pyIter x) (fun it s₂ => ∀ p,
      Seg M A R Y n s₀ (.forLoop target it body orelse env) (M.den (.forLoop target it body orelse env))
        (.ret (fun r => ((match r with | .ok f => (.pure f : Sem Flow) | .error e => .raise e).onRaise (fun (x : Value) => do
          if (← field x 1) == Value.none then unsupported "frame.own-activation:exception-without-traceback"
          setFlight x env.frame)).wrap K H gd lv) none (gd false) (lv []) c p [] :: fs) s₂)
      (fun x s' => Seg M A R Y n s₀ c (H x) fs s') s₁) (fun x s' => Seg M A R Y n s₀ c (H x) fs s') s)
    (hs : ∀ x, foldedSetIterable iter env x = pure x := by intro _; rfl) :
    Seg M A R Y n s₀ c ((exec (.For target iter body orelse pos) env).wrap K H gd lv) fs s := by
  rw [exec_For]
  refine seg_bind_wrap (wpAny_standAt ?_)
  refine seg_bind_wrap (wpAny_mono h (fun x s₁ h₁ => ?_) fun _ _ x => x)
  refine seg_bind_wrap (wpAny_of_eq (hs x) ?_)
  refine seg_bind_wrap (wpAny_standAt ?_)
  refine seg_bind_wrap (wpAny_holding (wpAny_mono h₁ (fun it s₂ h₂ => ?_) fun _ _ x => x))
  exact seg_call h₂
end
section
variable {prog : Program} {w : World} {A : Around} {R : GenEnd} {Y : Protocol} {n : Nat} {s₀ : Shared} {fs : List Frame} {s : Shared} {env : Env}
def gOut (env : Env) (x : Value) : Sem PySem.Fin := (do noteFrame x env; theTreesLotGoes x : Sem Unit).wrap (fun _ => .raise x) .raise id id
theorem seg_forLoop {target : Expr} {it : Value} {body : List Stmt}
    (h : wpAny (model prog w) (A.over (.forLoop target it body [] env) fs) (pyNext it) (fun r s₁ => match r with
        | none => Seg (model prog w) A R Y n s₀ (.forLoop target it body [] env) (.pure (.again (.block [] env))) fs s₁
        | some v => wpAny (model prog w) (A.over (.forLoop target it body [] env) fs) (letOwnedTupleGo target it v) (fun _ s₂ =>
            wpAny (model prog w) (A.over (.forLoop target it body [] env) fs) (assign target env v) (fun _ s₃ =>
              Seg (model prog w) A R Y n s₀ (.forLoop target it body [] env) ((execs body env).wrap (fun f => match f with
                | .next | .cont => .pure (.again (.forLoop target it body [] env))
                | .brk => .pure (.done .next)
                | .ret v => .pure (.done (.ret v))) (gOut env) id id) fs s₃)
              (fun x s' => Seg (model prog w) A R Y n s₀ (.forLoop target it body [] env) (gOut env x) fs s') s₂)
            (fun x s' => Seg (model prog w) A R Y n s₀ (.forLoop target it body [] env) (gOut env x) fs s') s₁)
      (fun x s' => Seg (model prog w) A R Y n s₀ (.forLoop target it body [] env) (gOut env x) fs s') s) :
    Seg (model prog w) A R Y n s₀ (.forLoop target it body [] env) ((model prog w).den (.forLoop target it body [] env)) fs s := by
  have hout : ∀ (x : Value), ((do noteFrame x env; theTreesLotGoes x : Sem Unit).bind fun _ => (.raise x : Sem PySem.Fin)) = gOut env x := fun x => Sem.bind_eq_wrap _ _
  show Seg _ A R Y n s₀ _ ((forTurn target it body [] env).onRaise (fun x => do noteFrame x env; theTreesLotGoes x)) fs s
  unfold forTurn
  rw [Sem.onRaise_eq_wrap]
  refine seg_bind_wrap (wpAny_standAt ?_)
  refine seg_bind_wrap (wpAny_onRaise (wpAny_mono h (fun r s₁ h₁ => ?_) fun x s' hx => wpAny_standAt ?_))
  · cases r with
    | none => exact h₁
    | some v =>
      refine seg_bind_wrap (wpAny_mono h₁ (fun _ s₂ h₂ => ?_) fun x s' hx => ?_)
      · refine seg_bind_wrap (wpAny_mono h₂ (fun _ s₃ h₃ => ?_) fun x s' hx => ?_)
        · rw [Sem.bind_eq_wrap', Sem.wrap_wrap]
          rw [Sem.wrap_congr (execs body env) _ _ (K' := fun f => match f with
                | .next | .cont => .pure (.again (.forLoop target it body [] env))
                | .brk => .pure (.done .next)
                | .ret v => .pure (.done (.ret v))) (H' := gOut env)
            (fun f => by cases f <;> rfl)
            (fun e => by first | exact hout e | rfl)]
          exact h₃
        · first | exact hx | (rw [← hout] at hx; exact hx)
      · first | exact hx | (rw [← hout] at hx; exact hx)
  · first | exact hx | (rw [← hout] at hx; exact hx)
end
section
variable {X : Cx} {tg : Expr}
def tGFor (wi : TI) (g : TG) (tb : TGn) : TGn := fun D ys σ H => wi σ H fun J H1 => ∃ W : Nat → Nat → List V → L2.St → Hp → Prop, (∃ m, W 0 m ys σ H1) ∧ ∀ i m ys σ H, W i m ys σ H →
  (J.stop i H ∧ D.nx ys σ H) ∨ (J.go i H ∧ ∃ N : List V → L2.St → Hp → Prop, (∀ ys' σ' H', N ys' σ' H' → ∃ m', m' < m ∧ W (i + 1) m' ys' σ' H') ∧ ∀ x H', J.yld i H x H' → g x σ H' fun σ2 H2 => tb { D with nx := N, ct := N, bk := D.nx } ys σ2 H2)
theorem gs_for {iter : Expr} {body : List Stmt} {wi : TI} {g : TG} {tb : TGn} {pos : Pos} (hp : PassesOwn (model X.prog X.w) X.A X.env X.xe) (hcalm : X.calm = true) (hi : PI X tg iter wi) (hg : PG X tg g) (hb : GSs X body tb)
    (hs : ∀ x, foldedSetIterable iter X.env x = pure x := by intro _; rfl) : GS X (.For tg iter body [] pos) (tGFor wi g tb) := by
  refine ⟨fun A S ip R n ys s₀ c fs K J gd lv s σ H D gc hn k hI ht => ?_⟩
  obtain ⟨acc, cc, r, I⟩ := hI
  refine seg_For ?_ hs
  rw [gc.over]
  refine wpAny_mono (hi.run ((S, lstObj acc cc) :: ip) s σ H _ I ht) (fun v s1 h1 => ?_) fun x s' hx => k.exc n s₀ x s' hx
  refine wpAny_mono h1 (fun itv s2 h2 => ?_) fun x s' hx => k.exc n s₀ x s' hx
  obtain ⟨it, fp, tn, J', H2, e, I2, T, st2, f2, W, ⟨m0, w0⟩, turn⟩ := h2
  subst e
  intro p
  have fS : ∀ b ∈ fp, S ≠ b := fun b hb => (f2 b hb).2.2.2.2.2 (S, lstObj acc cc) (List.mem_append_right _ List.mem_cons_self)
  have stat : ∀ (acc : Array Value) (cc : Nat) {H' : Hp}, (∀ b ∈ fp, H' b = none) → ∀ b ∈ fp, FpOk X ((S, lstObj acc cc) :: ip) H' b := fun acc' cc' H' hn b hb => by
    obtain ⟨_, q1, q2, q3, q4, q5⟩ := f2 b hb
    refine ⟨hn b hb, q1, q2, q3, q4, fun p hp => ?_⟩
    rcases List.mem_append.mp hp with z | z
    · exact q5 p (List.mem_append_left _ z)
    · rcases List.mem_cons.mp z with z | z
      · rw [z]; exact fS b hb
      · exact q5 p (List.mem_append_right _ (List.mem_cons_of_mem _ z))
  have gl := fun (kk : Result → Sem PySem.Fin) => gc_loop (k := kk) (c' := .forLoop tg (.ref it) body [] X.env) (l := lv []) (kp := []) (p := p) gc rfl rfl
  have loop : ∀ (m i n : Nat) (ys : List V) (s₀ s : Shared) (σ : L2.St) (H : Hp), n + ys.length = sizeLine → W i m ys σ H → GI X S ip ys σ H s → tn i s.heap → (∀ b ∈ fp, H b = none) →
      Seg (model X.prog X.w) A R (GY X S) n s₀ (.forLoop tg (.ref it) body [] X.env) ((model X.prog X.w).den (.forLoop tg (.ref it) body [] X.env))
        (.ret (fun r => ((match r with | .ok f => (.pure f : Sem Flow) | .error e => .raise e).onRaise (cameBack X.env)).wrap K J gd lv) none (gd false) (lv []) c p [] :: fs) s := by
    intro m
    induction m using Nat.strongRecOn with
    | ind m ih =>
      intro i n ys s₀ s σ H hn w hI st fr
      have ee : ∀ (n : Nat) (s₀ : Shared) (x : Value) (s' : Shared), X.xe x s' → Seg (model X.prog X.w) A R (GY X S) n s₀ (.forLoop tg (.ref it) body [] X.env) (gOut X.env x)
          (.ret (fun r => ((match r with | .ok f => (.pure f : Sem Flow) | .error e => .raise e).onRaise (cameBack X.env)).wrap K J gd lv) none (gd false) (lv []) c p [] :: fs) s' := fun n s₀ x s' hx => by
        unfold gOut
        refine seg_wrap ?_
        rw [(gl _).over]
        refine wpAny_bind (wpAny_mono (hp x s' hx) (fun _ s'' hcb => wpAny_theTreesLotGoes ?_) fun y s'' hcb => ?_)
        · exact seg_leaf (.error x) (seg_cameBack gc k hcb)
        · exact seg_leaf (.error y) (seg_cameBack gc k hcb)
      refine seg_forLoop ?_
      rw [(gl _).over]
      obtain ⟨acc, cc, r, I⟩ := hI
      rcases turn i m ys σ H w with ⟨stop, qn⟩ | ⟨go, N, hN, step⟩
      · refine wpAny_mono (T.done X rfl rfl rfl hcalm i _ s σ H X.xe I (stat acc cc fr) st stop) (fun u s4 h4 => ?_) fun x s' hx => ee n s₀ x s' hx
        obtain ⟨hr, I4⟩ := h4
        subst hr
        refine seg_again rfl ?_
        show Seg _ _ _ _ _ _ _ (.pure (.done .next)) _ _
        exact seg_leaf (.ok .next) (k.ok n ys s₀ s4 .next hn ⟨σ, H, ⟨acc, cc, r, I4⟩, qn⟩)
      · refine wpAny_mono (T.item X rfl rfl rfl hcalm i _ s σ H X.xe I (stat acc cc fr) st go) (fun u s4 h4 => ?_) fun x s' hx => ee n s₀ x s' hx
        obtain ⟨u, hr, h4⟩ := h4
        subst hr
        refine wpAny_mono h4 (fun _ s5 h5 => ?_) fun x s' hx => ee n s₀ x s' hx
        obtain ⟨x, H5, I5, r5, y5, st5, fr5⟩ := h5
        have I5' := I5.pinned (stat acc cc fr5) (T.obj _ _ st5)
        refine wpAny_mono (hg.run _ s5 σ H5 x u _ I5' r5 (step x H5 y5)) (fun _ s6 h6 => ?_) fun x s' hx => ee n s₀ x s' hx
        obtain ⟨σ6, H6, I6, q6⟩ := h6
        have gip : ∀ p ∈ ip ++ pinsAt fp s5.heap, p.1 ≠ S := fun p hp => (List.mem_append.mp hp).elim (gc.ip p) fun z => Ne.symm (fS p.1 (of_pinsAt z).1)
        have again : ∀ {ys' : List V} {σ7 : L2.St} {H7 : Hp} {s7 : Shared}, GI X S (ip ++ pinsAt fp s5.heap) ys' σ7 H7 s7 → GI X S ip ys' σ7 H7 s7 ∧ tn (i + 1) s7.heap ∧ ∀ b ∈ fp, H7 b = none := fun {ys' σ7 H7 s7} hG => by
          obtain ⟨acc7, cc7, r7, I7⟩ := hG
          have I7' : Inv X (((S, lstObj acc7 cc7) :: ip) ++ pinsAt fp s5.heap) σ7 H7 s7 := I7
          refine ⟨⟨acc7, cc7, r7, I7'.unpinned⟩, T.keep _ _ _ st5 fun b hb o e => (I7'.pin (b, o) (List.mem_append_right _ (List.mem_append_right _ (mem_pinsAt hb e)))).1, fun b hb => ?_⟩
          obtain ⟨o, e, d⟩ := T.obj _ _ st5 b hb
          exact (I7'.pin (b, o) (List.mem_append_right _ (List.mem_append_right _ (mem_pinsAt hb e)))).2.1
        refine hb.run A S (ip ++ pinsAt fp s5.heap) R n ys s₀ _ _ _ _ id id s6 σ6 H6 { D with nx := N, ct := N, bk := D.nx } ⟨gc.pn, gip, gc.apart, (gl _).over, (gl _).split, (gl _).guard, rfl⟩ hn
          ⟨fun n' ys' s₀' s7 f hn' hs => ?_, fun n' s₀' x s7 hx => ee n' s₀' x s7 hx⟩ ⟨acc, cc, r, I6⟩ q6
        cases f with
        | next =>
          obtain ⟨σ7, H7, I7, n7⟩ := hs
          obtain ⟨m', hm, w7⟩ := hN ys' σ7 H7 n7
          obtain ⟨G7, t7, f7⟩ := again I7
          exact seg_again rfl (ih m' hm (i + 1) n' ys' s₀' s7 σ7 H7 hn' w7 G7 t7 f7)
        | cont =>
          obtain ⟨σ7, H7, I7, n7⟩ := hs
          obtain ⟨m', hm, w7⟩ := hN ys' σ7 H7 n7
          obtain ⟨G7, t7, f7⟩ := again I7
          exact seg_again rfl (ih m' hm (i + 1) n' ys' s₀' s7 σ7 H7 hn' w7 G7 t7 f7)
        | brk =>
          obtain ⟨σ7, H7, I7, q7⟩ := hs
          exact seg_leaf (.ok .next) (k.ok n' ys' s₀' s7 .next hn' ⟨σ7, H7, (again I7).1, q7⟩)
        | ret v =>
          obtain ⟨x7, σ7, H7, I7, r7, q7⟩ := hs
          exact seg_leaf (.ok (.ret v)) (k.ok n' ys' s₀' s7 (.ret v) hn' ⟨x7, σ7, H7, (again I7).1, r7, q7⟩)
  exact loop m0 0 n ys s₀ s2 σ H2 hn w0 ⟨acc, cc, r, I2⟩ st2 fun b hb => (f2 b hb).1
end
end L2
set_option Elab.async false
set_option autoImplicit false
set_option linter.all false
set_option maxRecDepth 100000
set_option maxHeartbeats 1000000
namespace Pyr
open PySem PySem.Spec PyProof.Rows L2 Evl
def gSeq (F1 : Frm → Res Fl) (F2 : Frm → Res (List D)) : Frm → Res (List D) := fun ρ => match F1 ρ with
  | .ok (.next ρ') => F2 ρ'
  | _ => .bad
def gFor (i : Nat) (fi : En → Res (List D)) : Frm → Res (List D) := fun ρ => match fi (purE ρ) with
  | .ok ds => if i < ρ.length then okL ds.length (.ok ds) else .bad
  | _ => .bad
structure DGs (TS : TabList) (X : Cx) (body : List Stmt) (F : Frm → Res (List D)) : Prop where
  ex : ∃ t, GSs X body t ∧ ∀ (ρ : Frm) (σ : L2.St) (G_0 H_0 G H : Hp) (fp : Nat → List Addr) (Dn : GEnds) (xs : List D), SI TS X.K G_0 H_0 ρ σ G H fp → F ρ = .ok xs →
    (∀ (ys : List V) (σ' : L2.St) (G' H' : Hp), Gr TS G_0 H_0 G' H' → Rps X.K G' ys xs → Dn.nx ys σ' H') → t Dn [] σ H
section
variable {TS : TabList} {X : Cx} {st : Stmt} {rest : List Stmt} {F1 : Frm → Res Fl} {F2 : Frm → Res (List D)} {iter : Expr} {fi : En → Res (List D)} {pos p1 p2 p3 p4 : Pos}
theorem dg_cons (h1 : DSt TS X st F1) (h2 : DGs TS X rest F2) : DGs TS X (st :: rest) (gSeq F1 F2) := by
  obtain ⟨t, g, r2⟩ := h2.ex
  refine ⟨_, gss_cons (gs_ps (ps_wp X st)) g, fun ρ σ G_0 H_0 G H fp Dn xs s e q => ?_⟩
  refine h1.run (fun _ _ _ _ => False) ρ σ G_0 H_0 G H fp _ takes0 s ?_
  unfold gSeq at e
  split at e
  · rename_i ρ' h
    rw [h]
    exact fun σ1 G1 H1 fp1 _ s1 => r2 ρ' σ1 G_0 H_0 G1 H1 fp1 Dn xs s1 e q
  · cases e
theorem dg_for {i : Nat} {x : Str} (C : CtE X) (hp : PassesOwn (model X.prog X.w) X.A X.env X.xe) (hi : DI TS X (.Name x p1) iter fi) (hN : X.N[i]? = some x := by rfl) (hv : Vis X.env.scope x := by first | exact Or.inl rfl | exact Or.inr (Or.inl rfl) | exact Or.inr (Or.inr rfl))
    (hx : Loc X.env.scope x := by first | exact Or.inl rfl | exact Or.inr rfl) (hf : X.fn x = true ∨ X.env.scope.names.lookup x = some .local := by first | exact .inl rfl | exact .inr rfl)
    (hd : (x == ("__debug__" : Str)) = false := by decide) (hcd : (x == ("__classdict__" : Str)) = false := by decide)
    (hco : X.env.scope.isCoroutine = false := by rfl) (hin : interactive X.env = false := by rfl) (hs : ∀ x, foldedSetIterable iter X.env x = pure x := by intro _; rfl) :
    DGs TS X [.For (.Name x p1) iter [.Expr (.Yield (some (.Name x p2)) p3) p4] [] pos] (gFor i fi) := by
  refine ⟨_, gss_cons (gs_for hp C.calm (pi_wp X (.Name x p1) iter) (pg_name C.nd hN hx hf) (gss_cons (gs_yield (pe_var hN hv hd hcd) hco hin) gss_nil) hs) gss_nil, fun ρ σ G_0 H_0 G H fp Dn xs s e q => ?_⟩
  unfold gFor at e
  split at e
  · rename_i ds hds
    split at e
    · rename_i hlt0
      unfold okL at e
      split at e
      · rename_i hlim
        cases e
        refine hi.run (fun _ _ _ _ => False) (purE ρ) σ G H _ takes0 s.pure s.gr.ok ?_
        rw [hds]
        intro J G1 H1 g1 wk
        have hlen : i < σ.length := by rw [← s.len]; exact hlt0
        refine ⟨fun j m ys σ' H' => m = xs.length - j ∧ j ≤ xs.length ∧ σ'.length = σ.length ∧ ∃ G', Gr TS G_0 H_0 G' H' ∧ Ex G1 G' ∧ Rps X.K G' ys (xs.take j), ⟨xs.length, by simp, Nat.zero_le _, rfl, G1, s.gr.trans g1, Ex.refl G1, by rw [List.take_zero]; exact .nil⟩, ?_⟩
        rintro j m ys σ' H' ⟨rfl, hj, hl, G', g', e1, r⟩
        obtain ⟨w1, w2⟩ := wk G' H' e1 g'.ok
        by_cases hlt : j < xs.length
        · have hx' : xs[j]? = some xs[j] := List.getElem?_eq_getElem hlt
          obtain ⟨h1, h2⟩ := w1 j _ hx'
          refine .inr ⟨h1, fun ys' σ' H' => σ'.length = σ.length ∧ ∃ G', Gr TS G_0 H_0 G' H' ∧ Ex G1 G' ∧ Rps X.K G' ys' (xs.take (j + 1)), fun ys' σ' H' h => ⟨xs.length - (j + 1), by omega, rfl, hlt, h⟩, fun v H2 y => ?_⟩
          obtain ⟨G2, g2, rv⟩ := h2 v H2 y
          have hyl : ys.length = j := by
            have := r.len
            rw [this, List.length_take]
            omega
          refine ⟨?_, v, List.getElem?_set_self (by rw [hl]; exact hlen), by rw [List.length_set]; exact hl, G2, g'.trans g2, e1.trans g2.g, ?_⟩
          · rw [hyl]
            exact Nat.lt_of_lt_of_le hlt (lim_line hlim)
          · rw [List.take_add_one, hx']
            exact (r.mono g2.g).app (.cons rv .nil)
        · have e : j = xs.length := by omega
          subst e
          rw [List.take_length] at r
          exact .inl ⟨w2, q ys σ' G' H' g' r⟩
      · cases e
    · cases e
  · cases e
end
def spG (TS : TabList) (K : PySem.W.Frag) (n : Nat) (m : List D → Res (List D)) : SpG := fun vs H Q _ => ∃ G ds xs, ds.length = n ∧ Rps K G vs ds ∧ Ok0 TS G H ∧ m ds = .ok xs ∧ ∀ ys G' H', Gr TS G H G' H' → Rps K G' ys xs → Q ys H'
structure KnownG (TS : TabList) (P : Program) (w : World) (K : PySem.W.Frag) (mg : Str → Option Value) (base : Heap) (k : Nat) (x : Str) (ps : List Str) (m : List D → Res (List D)) : Prop where
  ex : ∃ f fd, GFn P w K mg base k f fd ps (spG TS K ps.length m) ∧ mg x = some (.ref f) ∧ PySem.W.keepIn K (.ref f) = true ∧ Binds K fd ps []
def defG (n : Nat) (F : Frm → Res (List D)) : List D → Res (List D) := fun ds => F (frm0 n ds)
theorem knownG_of {TS : TabList} {P : Program} {w : World} {K : PySem.W.Frag} {mg : Str → Option Value} {base : Heap} {x : Str} {st : Stmt} {N ps : List Str} {k : Nat} {F : Frm → Res (List D)} (d : Dfn K mg x st ps) (S : GScope N ps (defScope st))
    (body : ∀ (f : Addr) (cdv : Value) (A : Around) (outer : List Env) (s : Shared) (H : Hp) (E : XK) (pn : List (Addr × Obj)), Room k (A.deeper (envOfC x (defScope st) s.heap.objs.size f cdv)) → DGs TS (gcxOf P w K mg base N x (defScope st) f cdv A outer s H E pn) (defBody st) F) :
    KnownG TS P w K mg base (k + 1) x ps (defG N.length F) := by
  obtain ⟨f, fd, F1, hm, hb⟩ := d
  refine ⟨f, fd, ?_, hm, F1.kp, hb⟩
  obtain ⟨_, _, _, _, _, _, c, _, _, rfl, lk, hc⟩ := F1.ex
  refine gfn_of lk hc S (fun vs H Q E h => ?_) (fun A outer s H vs Q E pn hr h => ?_)
  · obtain ⟨G, ds, xs, hl, r, _⟩ := h
    rw [r.len, hl]
  · obtain ⟨G, ds, xs, hl, r, ok, e, q⟩ := h
    obtain ⟨t, g, run⟩ := (body f c A outer s H E pn hr).ex
    exact ⟨t, g, run (frm0 N.length ds) (L2.start N vs) G H G H (fun _ => []) _ xs (SI.start ok r) e fun ys _ G' H' g' r' => q ys G' H' g' r'⟩
theorem KnownG.cast {TS : TabList} {P : Program} {w : World} {K : PySem.W.Frag} {mg : Str → Option Value} {base : Heap} {k : Nat} {x : Str} {ps : List Str} {m m' : List D → Res (List D)} (e : m = m') (h : KnownG TS P w K mg base k x ps m') : KnownG TS P w K mg base k x ps m := e ▸ h
def lGen (n : Nat) (m : List D → Res (List D)) (fr : En → Res (List D)) : En → Res (List D) := fun ρ => (fr ρ).bind fun ds => if ds.length = n then (match m ds with
  | .ok xs => .ok xs
  | _ => .bad) else .bad
theorem dl_gen {TS : TabList} {X : Cx} {a : Expr} {es : List Expr} {fr : En → Res (List D)} {pos pos' p p' : Pos} {x : Str} {ps : List Str} {k k' : Nat} {m : List D → Res (List D)} (C : CtE X) (F : KnownG TS X.prog X.w X.K X.mg X.base k x ps m) (hr : Room k' X.A) (hk : k + 3 ≤ k') (hg : Gl X x) (ha : DA TS X (a :: es) fr)
    (hgl : Gl X "list") (hml : X.mg "list" = none) (hvl : bootBuiltins "list" = some (.type "list"))
    (hdb : (x == ("__debug__" : Str)) = false := by decide) (he : starEach (a :: es) X.env = (false, eval a X.env) :: starEach es X.env := by rfl) (hpl : (backTo pos' (starEach es X.env)).any (·.1) = false := by rfl)
    (he1 : starEach [.Call (.Name x p) (a :: es) [] pos'] X.env = (false, eval (.Call (.Name x p) (a :: es) [] pos') X.env) :: starEach [] X.env := by rfl) :
    DL TS X (.Call (.Name "list" p') [.Call (.Name x p) (a :: es) [] pos'] [] pos) (lGen ps.length m fr) := by
  refine ⟨?_⟩
  intro W ρ σ G H Q tk re ok post
  obtain ⟨f, fd, F, hm, hkp, hb⟩ := F.ex
  have hr3 : Room (k + 3) X.A := hr.mono hk
  refine wpE_of (pe_listG (E := fun _ _ _ => False) (pgen_call F (hr3.mono (by omega)) hg hm hkp hb .nil (pa_wp X (a :: es)) hdb he hpl) (fun pins σ H s e s' _ h => by
    obtain ⟨_, _, _, _, _, _, _, _, _, _, _, _, z⟩ := h
    exact z.elim) (fun _ _ _ z => z.elim) hr3 hgl hml hvl (by decide) (by decide) he1) ?_
  refine bindP (wp := fun R => wpA X (a :: es) σ H R) back_L (fun Q' p => ha W ρ σ G H Q' tk re ok p) post fun vs ds G1 H1 _ g1 rs p => ?_
  rw [List.append_nil]
  split at p
  · rename_i hl
    split at p
    · rename_i xs hx
      refine ⟨G1, ds, xs, hl, rs, g1.ok, hx, fun ys G2 H2 g2 r2 q hq => ?_⟩
      exact p _ _ _ (g2.trans (Gr.own (o := .lst ys) g2.ok hq)) ⟨q, _, rfl, g2.h.old _ hq, fresh_back g2.ok.le hq, upd_same, r2⟩
    · exact p.elim
  · exact p.elim
def eEnds (fa fb : En → Res D) : En → Res D := fun ρ => (fa ρ).bind fun x => match x with
  | .str a => (fb ρ).bind fun y => match y with
    | .str b => .ok (.bool (Txt.endswith a b))
    | _ => .bad
  | _ => .bad
theorem de_ends {TS : TabList} {X : Cx} {a b : Expr} {fa fb : En → Res D} {pos apos : Pos} (ha : DE TS X a fa) (hb : DE TS X b fb) (hs : starEach [b] X.env = [(false, eval b X.env)] := by rfl) (hbase : attributeBase a "endswith" X.env (eval a X.env) = eval a X.env := by rfl) (hline : (apos.endLine == pos.line) = true := by rfl) :
    DE TS X (.Call (.Attribute a "endswith" apos) [b] [] pos) (eEnds fa fb) := by
  refine ⟨?_⟩
  intro W ρ σ G H Q tk re ok post
  refine wpE_of (pe_m1 PySem.F.slot_str_endswith PySem.F.type_str_endswith mt_endswith (pe_wp X a) (pe_wp X b) hs hbase hline) ?_
  refine bindP (wp := fun R => wpE X a σ H R) back_E (fun Q' p => ha W ρ σ G H Q' tk re ok p) post fun v x G1 H1 _ g1 rx p => ?_
  cases rx with
  | str z =>
    refine ⟨⟨z, rfl⟩, ?_⟩
    refine bindP (wp := fun R => wpE X b σ H1 R) back_E (fun Q' q => hb W ρ σ G1 H1 Q' tk (re.mono g1) g1.ok q) p fun u y G2 H2 _ g2 ry p => ?_
    cases ry with
    | str w => exact ⟨z, w, rfl, rfl, p _ G2 H2 (Gr.refl g2.ok) (.bl _)⟩
    | _ => exact p.elim
  | _ => exact p.elim
end Pyr
set_option Elab.async false
set_option autoImplicit false
set_option linter.all false
set_option maxRecDepth 100000
set_option maxHeartbeats 4000000
namespace Pyr
open PySem PySem.Spec PyProof.Rows L2 Evl
structure RK (K : PySem.W.Frag) (u : Value) (d : D) : Prop where
  ex : ∃ v : V, L2.RelV v u ∧ ∀ G, Rp K G v d
inductive RKs (K : PySem.W.Frag) : List Value → List D → Prop
  | nil : RKs K [] []
  | cons {u : Value} {d : D} {us : List Value} {ds : List D} : RK K u d → RKs K us ds → RKs K (u :: us) (d :: ds)
theorem RKs.vals {K : PySem.W.Frag} : ∀ {us : List Value} {ds : List D}, RKs K us ds → ∃ vs, Vals vs us ∧ ∀ G, Rps K G vs ds
  | _, _, .nil => ⟨[], .nil, fun _ => .nil⟩
  | _, _, .cons h r =>
    let ⟨v, h1, h2⟩ := h.ex
    let ⟨vs, h3, h4⟩ := r.vals
    ⟨v :: vs, .cons h1 h3, fun G => .cons (h2 G) (h4 G)⟩
theorem rk_str {K : PySem.W.Frag} {x : Str} {t : Tok} : RK K (.str x t) (.str x) := ⟨.str x, ⟨t, rfl⟩, fun _ => .str x⟩
theorem rk_tup {K : PySem.W.Frag} {a : Addr} {o : Obj} {its : Array Value} {n : Nat} {ds : List D} (h : K.lookup a = some o) (c : o.cls = .type "tuple") (e : o.data = .seq its n) (z : its.size ≤ sizeLine) (r : RKs K its.toList ds) : RK K (.ref a) (.tuple ds) := by
  obtain ⟨vs, h1, h2⟩ := r.vals
  exact ⟨.ref a, rfl, fun G => .tup (.inr ⟨o, its, n, h, c, e, z, h1⟩) (h2 G)⟩
inductive RKd (K : PySem.W.Frag) (w : World) : List DictEntry → List (Str × D) → Prop
  | nil : RKd K w [] []
  | cons {x : Str} {t : Tok} {u : Value} {g : Int} {d : D} {es : List DictEntry} {ps : List (Str × D)} : g = hashStr w x → RK K u d → RKd K w es ps → RKd K w (⟨g, .str x t, u⟩ :: es) ((x, d) :: ps)
structure DicAt (K : PySem.W.Frag) (w : World) (A : Addr) (ps : List (Str × D)) : Prop where
  ex : ∃ (es : Array DictEntry) (n : Nat), K.lookup A = some ⟨.type "dict", none, .dict es n, #[]⟩ ∧ RKd K w es.toList ps
  low : (A == sysModules) = false
  nd : (ps.map (·.1)).Nodup
  sz : ps.length ≤ sizeLine
abbrev GDic (K : PySem.W.Frag) (w : World) (mg : Str → Option Value) (x : Str) (ps : List (Str × D)) : Prop := ∃ A : Addr, mg x = some (.ref A) ∧ DicAt K w A ps
abbrev GDicQ (K : PySem.W.Frag) (w : World) (x : Str) (ps : List (Str × D)) : Prop := ∃ A : Addr, PySem.W.nsIn K mainGlobals x = some (some (.ref A)) ∧ DicAt K w A ps
theorem gdic_of {K : PySem.W.Frag} {w : World} {mg : Str → Option Value} {h : Heap} {x : Str} {ps : List (Str × D)} (X : K.In h) (G : h.Ns mainGlobals mg) (y : GDicQ K w x ps) : GDic K w mg x ps := let ⟨A, y, t⟩ := y; ⟨A, PySem.W.mg_of X G y, t⟩
theorem RKd.all {P : Program} {K : PySem.W.Frag} {w : World} : ∀ {es : List DictEntry} {ps : List (Str × D)}, RKd K w es ps → ∃ (vs : List (Key × Value)) (kvs : List (Key × V)), Pairs (mixKind P w) es vs ∧ KV kvs vs ∧ vs.map (·.1) = ps.map (fun p => (.inr p.1 : Key)) ∧
    (∀ e ∈ es, ∃ k, (mixKind P w).is k e.key = true ∧ e.hash = (mixKind P w).hash k) ∧ ∀ G, RpKv K G kvs (ps.map fun p => (.str p.1, p.2))
  | _, _, .nil => ⟨[], [], .nil, .nil, rfl, fun _ h => (List.not_mem_nil h).elim, fun _ => .nil⟩
  | _, _, .cons (x := x) (t := t) (u := u) (d := d) hg h r => by
    obtain ⟨vs, kvs, h1, h2, h3, h4, h5⟩ := r.all (P := P)
    obtain ⟨v, h6, h7⟩ := h.ex
    have hk : (mixKind P w).is (.inr x) (.str x t) = true := strKind_is P w x t
    refine ⟨(.inr x, u) :: vs, (.inr x, v) :: kvs, .cons hk rfl h1, .cons ⟨rfl, h6⟩ h2, by rw [List.map_cons, List.map_cons, h3], fun e he => ?_, fun G => .cons (h7 G) (h5 G)⟩
    rcases List.mem_cons.mp he with z | z
    · rw [z]
      exact ⟨.inr x, hk, hg⟩
    · exact h4 e z
theorem DicAt.of {P : Program} {K : PySem.W.Frag} {w : World} {A : Addr} {ps : List (Str × D)} (d : DicAt K w A ps) : ∃ (vs : List (Key × Value)) (kvs : List (Key × V)), KV kvs vs ∧ (∀ h : Heap, K.In h → h.DictOf (mixKind P w) A vs) ∧ kvs.length ≤ sizeLine ∧ ∀ G, RpKv K G kvs (ps.map fun p => (.str p.1, p.2)) := by
  obtain ⟨es, n, hl, r⟩ := d.ex
  obtain ⟨vs, kvs, h1, h2, h3, h4, h5⟩ := r.all (P := P)
  refine ⟨vs, kvs, h2, fun h X => ⟨_, es, n, X _ _ hl, ⟨rfl, rfl, rfl⟩, rfl, fun e he => h4 e (Array.mem_toList_iff.mpr he), h1, ?_⟩, ?_, h5⟩
  · rw [h3]
    have := d.nd
    rw [show ps.map (fun p => (.inr p.1 : Key)) = (ps.map (·.1)).map Sum.inr by rw [List.map_map]; rfl]
    exact List.Pairwise.map Sum.inr (fun a b hne e => hne (Sum.inr.inj e)) this
  · have e := congrArg List.length h3
    rw [List.length_map, List.length_map] at e
    rw [h2.length, e]
    exact d.sz
def lGDict (ps : List (Str × D)) : En → Res (List (D × D)) := fun _ => .ok (ps.map fun p => (.str p.1, p.2))
section
variable {TS : TabList} {X : Cx} {pos p p2 : Pos} {x : Str} {ps : List (Str × D)}
theorem call_dictG {A : Addr} {vs : List (Key × Value)} {kvs : List (Key × V)} (low : (A == sysModules) = false) (hv : KV kvs vs) (hd : ∀ h : Heap, X.K.In h → h.DictOf (mixKind X.prog X.w) A vs) (hz : kvs.length ≤ sizeLine) :
    CallR X (.type "dict") (fun xs H Q => xs = [.ref A] ∧ ∀ p, H p = none → Q (.ref p) (upd H p (.dK kvs))) := by
  intro pins s σ H xs us Q I r q
  obtain ⟨ex, q⟩ := q
  subst ex
  obtain ⟨u, eu, rx⟩ := vals1 r
  subst eu
  cases rx
  refine kt_call_dict low (hd _ I.kIn) (by rw [← hv.length]; exact hz) fun h' d' hs => ?_
  have hm : (s.heap.objs.size == sysModules) = false := beq_eq_false_iff_ne.mpr (Nat.ne_of_gt I.big)
  exact ⟨.ref s.heap.objs.size, upd H s.heap.objs.size (.dK kvs), I.laid (t' := s.toks) (fun b u e => (hs.2 b (Nat.ne_of_lt (Heap.lt_size e))).trans (Heap.get?_push_of_some _ e)) (Nat.le_refl _)
    (show ObjOk X.prog X.w _ _ _ (.dK kvs) from ⟨hz, hm, vs, hv, d'⟩), rfl, q _ (I.hok.fresh (Nat.le_refl _))⟩
theorem dd_gdict (C : CtE X) (h : GDic X.K X.w X.mg x ps) (hgx : Gl X x) (hg : Gl X "dict") (hm : X.mg "dict" = none) (hd : (x == ("__debug__" : Str)) = false := by decide) (he : starEach [.Name x p2] X.env = (false, eval (.Name x p2) X.env) :: starEach [] X.env := by rfl) (hpl : (backTo pos (starEach [] X.env)).any (·.1) = false := by rfl) :
    DD TS X (.Call (.Name "dict" p) [.Name x p2] [] pos) (lGDict ps) := by
  obtain ⟨A, hA, d⟩ := h
  obtain ⟨vs, kvs, h1, h2, h3, h4⟩ := d.of (P := X.prog)
  refine ⟨?_⟩
  intro W ρ σ G H Q tk re ok post
  refine wpE_of (pe_callTy (call_dictG d.low h1 h2 h3) hg hm (by decide +kernel) (pa_cons (pe_glob (v := .ref A) hgx hA rfl hd) pa_nil he) (by decide) (by decide) he hpl) ?_
  refine ⟨rfl, fun q hq => ?_⟩
  have post : PostG (RelD X.K) TS X W σ G H (.ok (ps.map fun p => (.str p.1, p.2))) Q := post
  exact post (.ref q) G _ (Gr.own (o := .dK _) ok hq) ⟨q, _, rfl, hq, fresh_back ok.le hq, upd_same, h4 G⟩
end
end Pyr
set_option Elab.async false
set_option autoImplicit false
set_option linter.all false
set_option maxRecDepth 100000
set_option maxHeartbeats 4000000
namespace Pyr
open PySem PySem.Spec PyProof.Rows L2 Evl HotX
open L2H (Hot1)
def spI (C : Addr) (fs : List Str) : Sp := fun vs H Q _ => ∃ (a : Addr) (ys : List V), vs = .ref a :: ys ∧ ys.length = fs.length ∧ H a = some (exo a C none) ∧
  ∀ dx, H dx = none → dx ≠ a → Q .non (upd (upd H dx (exd dx (fs.zip ys).reverse)) a (exo a C (some dx)))
structure KnownX (P : Program) (w : World) (K : PySem.W.Frag) (mg : Str → Option Value) (base : Heap) (x : Str) (fs : List Str) : Prop where
  ex : ∃ (C fI : Addr) (fd : FuncData), OexC K C ∧ PySem.W.findIn K (.ref C) "__init__" = some (some (.ref fI)) ∧ PySem.W.typeIn K (.ref fI) = some (.type "function") ∧ mg x = some (.ref C) ∧
    FnOk P w K mg base (L2N.CX P w) 1 fI fd ("self" :: fs) (spI C fs) ∧ Binds K fd ("self" :: fs) []
theorem upd_swap {H : Hp} {a b : Addr} {o u z : HO} (h : b ≠ a) : upd (upd (upd H b z) a o) b u = upd (upd H b u) a o := by
  funext c
  by_cases h1 : c = b
  · subst h1
    rw [upd_same, upd_ne h, upd_same]
  · rw [upd_ne h1]
    by_cases h2 : c = a
    · subst h2
      rw [upd_same, upd_same]
    · rw [upd_ne h2, upd_ne h2, upd_ne h1, upd_ne h1]
section
variable {P : Program} {w : World} {K : PySem.W.Frag} {mg : Str → Option Value} {base : Heap} {x qual : Str} {st : Stmt} {f C : Addr} {fd : FuncData} {f1 f2 : Str}
theorem init2 (Fn : L2.Fun K x qual st f fd) (T : OexC K C) (S : FnScope ["self", f1, f2] ["self", f1, f2] (defScope st)) {p1 p2 p3 p4 q1 q2 q3 q4 : Pos}
    (hb : defBody st = [.Assign [.Attribute (.Name "self" p1) f1 p2] (.Name f1 p3) p4, .Assign [.Attribute (.Name "self" q1) f2 q2] (.Name f2 q3) q4])
    (v0 : Vis (defScope st) "self") (v1 : Vis (defScope st) f1) (v2 : Vis (defScope st) f2) (d1 : (f1 == ("__debug__" : Str)) = false) (e1 : (f1 == ("__classdict__" : Str)) = false) (d2 : (f2 == ("__debug__" : Str)) = false) (e2 : (f2 == ("__classdict__" : Str)) = false)
    (n1 : PySem.W.findIn K (.ref C) f1 = some none) (n2 : PySem.W.findIn K (.ref C) f2 = some none)
    (hs : ∀ env : Env, swapsWith (.Name f1 p3) (some (.Attribute (.Name "self" p1) f1 p2)) p4.line env = pure false := by intro _; rfl)
    (hs2 : ∀ env : Env, swapsWith (.Name f2 q3) (some (.Attribute (.Name "self" q1) f2 q2)) q4.line env = pure false := by intro _; rfl) : FnOk P w K mg base (L2N.CX P w) 1 f fd ["self", f1, f2] (spI C [f1, f2]) := by
  refine fun_ok Fn S (fun vs H Q E h => ?_) (fun cdv A outer s H vs Q E hr h => ?_)
  · obtain ⟨a, ys, rfl, hl, _⟩ := h
    simpa using hl
  · obtain ⟨a, ys, rfl, hl, ea, q⟩ := h
    match ys, hl with
    | [y, z], _ =>
      rw [hb]
      refine ⟨_, pss_cons (ps_ost (pe_var (i := 0) rfl v0) (pe_var (i := 1) rfl v1 d1 e1) (hs _)) (pss_one (ps_ost (pe_var (i := 0) rfl v0) (pe_var (i := 2) rfl v2 d2 e2) (hs2 _))), ?_⟩
      refine ⟨y, rfl, .ref a, rfl, a, C, rfl, T, n1, .inl ⟨ea, fun dx hn ne => ?_⟩⟩
      refine ⟨z, rfl, .ref a, rfl, a, C, rfl, T, n2, .inr ⟨dx, [(f1, y)], upd_same, by rw [upd_ne ne, upd_same], (by simp : ([(f1, y)] : List (Str × V)).length ≤ 900), ?_⟩⟩
      have h := q dx hn ne
      rw [← upd_swap (z := exd dx [(f1, y)]) ne] at h
      exact h
end
section
variable {X : L2.Cx} {CX : CXT} {x : Str} {e : Expr} {es : List Expr} {ta : TA} {p pos : Pos} {C fI : Addr} {k : Nat} {fd : FuncData} {ps : List Str} {sp : Sp}
theorem pmk_init (T : OexC X.K C) (ini : PySem.W.findIn X.K (.ref C) "__init__" = some (some (.ref fI))) (ty : PySem.W.typeIn X.K (.ref fI) = some (.type "function")) (F1 : FnOk X.prog X.w X.K X.mg X.base CX k fI fd ps sp) (room : Room (k + 1) X.A)
    (hb : Binds X.K fd ps []) (out : Passes CX X (fun _ _ _ => False)) (hg : Gl X x) (at_ : X.mg x = some (.ref C)) (args : PA X (e :: es) ta) (hdb : (x == ("__debug__" : Str)) = false := by decide)
    (star : starEach (e :: es) X.env = (false, eval e X.env) :: starEach es X.env := by rfl) (plain : (backTo pos (starEach es X.env)).any (·.1) = false := by rfl) : L2N.PMk X (.Call (.Name x p) (e :: es) [] pos) (tMkO C sp [] ta) := by
  intro pins s σ H Q I h
  obtain ⟨nm, q, N, bs, bm, sn, sub, ab, col, dd, k0, k1, k2, k3, k5, hC, ve⟩ := T.cls
  refine wpAny_Call_Name_kw (ld_glob I hg at_ ?_ hdb)
  refine PySem.W.callWith_K (h₀ := X.base) I.ok.mod.kin T.kC (thn (args.run pos pins s σ H _ I h) fun us s1 ⟨vs, H1, J1, rel, few, wish⟩ => ⟨J1.kIn, ?_⟩) star plain
  show wpAny _ _ (call (.ref C) us) _ _ _
  obtain ⟨hp, gens, dr, tk, os⟩ := s1
  generalize hz : hp.objs.size = z at *
  have up : hp.objs.size ≤ z + 1 := by omega
  have free : H1 (z + 1) = none := J1.hok.fresh up
  have asked := wish (z + 1) free
  rw [List.append_nil] at asked
  have keep : ∀ b o, hp.get? b = some o → ((hp.push (PySem.W.kdv_tup us)).push (PySem.HandSPX.excO C z)).get? b = some o := fun b o q => Heap.get?_push_of_some _ (Heap.get?_push_of_some _ q)
  have there : ((hp.push (PySem.W.kdv_tup us)).push (PySem.HandSPX.excO C z)).get? (z + 1) = some (PySem.HandSPX.excO C z) := by rw [← hz]; heap_get
  have J2 : Inv X pins σ (upd H1 (z + 1) (exo (z + 1) C none)) ⟨(hp.push (PySem.W.kdv_tup us)).push (PySem.HandSPX.excO C z), gens, dr, tk, os⟩ :=
    J1.laid (t' := tk) (a := z + 1) (o := exo (z + 1) C none) keep up (exo_ok there)
  have vals : Vals (V.ref (z + 1) :: vs) (Value.ref (z + 1) :: us) := .cons rfl rel
  have cnt : (Value.ref (z + 1) :: us ++ []).length = ps.length := by
    rw [List.append_nil, ← Paired.length vals]
    exact F1.len _ _ _ _ asked
  have line : us.length ≤ sizeLine := by
    rw [← Paired.length rel, sizeLine_eq]
    omega
  have bound := hb _ (Value.ref (z + 1) :: us) J2.kIn cnt
  rw [List.append_nil] at bound
  subst hz
  refine wpAny_call (PySem.HandSPX.call_own F.excBase_ValueError (fun Y => PySem.HandSPX.refsVE_contains Y bm ve) (J1.kIn _ _ hC) (PySem.W.looks_findIn J1.kIn ini) (fun self => PySem.W.bind_fn J1.kIn self ty) line
    (codeAny_mono (F1.run _ X.stack _ _ ⟨Value.ref (hp.objs.size + 1) :: us, []⟩ _ _ _ (fun _ _ _ => False) (room.make C us []) (J2.env0.make C us []) bound vals asked) fun r s' hr => ?_))
  cases r with
  | error er => exact out pins σ _ _ er s' J2 hr
  | ok fl =>
    cases fl with
    | ret u =>
      obtain ⟨v, H2, os2, bare2, un2, hok2, rv, ev, d, fs, ea, ed, hd1, q2⟩ := hr
      subst ev
      obtain ⟨h2, g2, d2, t2, os'⟩ := s'
      obtain ⟨t0, G, J, kG, ge, hoe, na⟩ := mk_end0 (d2 := d2) (t2 := t2) J1 up keep un2 hok2 os2 bare2 ea ed hd1
      refine ⟨rv, _, _, _, ⟨G, g2, d2, t2, os'⟩, _, .ref C, some d, rfl, J, kG, ge, hoe, ⟨rfl, rfl, fun vs hv => ?_⟩, rfl, rfl, na, rfl, bare2, raises_own T.exC T.tyC, q2⟩
      cases hv
      rfl
    | _ => exact hr.elim
end
def sRaiseF (c : Str) (fs : List Str) (fa : En → Res (List D)) : Frm → Res Fl := fun ρ => (fa (purE ρ)).bind fun ds => if ds.length = fs.length ∧ 0 < fs.length ∧ fs.length ≤ 9 then .exc c (fs.zip ds).reverse else .bad
theorem excRep_of {K : PySem.W.Frag} {G H : Hp} {d : Addr} {vfs : List (Str × V)} {fs : List (Str × D)} (ne : fs ≠ []) (h : G d = some (.xd vfs)) (h1 : vfs.map (·.1) = fs.map (·.1)) (h2 : Rps K G (vfs.map (·.2)) (fs.map (·.2))) : ExcRep K G H (some d) fs := by
  cases fs with
  | nil => exact (ne rfl).elim
  | cons p fs => exact ⟨d, vfs, rfl, h, h1, h2⟩
theorem zip_map1 {α β : Type} : ∀ {xs : List α} {ys : List β}, ys.length = xs.length → (xs.zip ys).map (·.1) = xs
  | [], [], _ => rfl
  | x :: xs, y :: ys, h => by
    rw [List.zip_cons_cons, List.map_cons, zip_map1 (Nat.succ.inj h)]
theorem zip_map2 {α β : Type} : ∀ {xs : List α} {ys : List β}, ys.length = xs.length → (xs.zip ys).map (·.2) = ys
  | [], [], _ => rfl
  | x :: xs, y :: ys, h => by
    rw [List.zip_cons_cons, List.map_cons, zip_map2 (Nat.succ.inj h)]
section
variable {TS : TabList} {X : L2.Cx} {x : Str} {fs : List Str} {e : Expr} {es : List Expr} {fa : En → Res (List Pyr.D)} {p pos pos2 : Pos}
theorem ds_raiseF (Ct : CtE X) (k : KnownX X.prog X.w X.K X.mg X.base x fs) (room : Room 2 X.A) (hg : Gl X x) (ha : DA TS X (e :: es) fa) (hdb : (x == ("__debug__" : Str)) = false := by decide)
    (star : starEach (e :: es) X.env = (false, eval e X.env) :: starEach es X.env := by rfl) (plain : (backTo pos (starEach es X.env)).any (·.1) = false := by rfl) : DSt TS X (.Raise (some (.Call (.Name x p) (e :: es) [] pos)) none pos2) (sRaiseF x fs fa) := by
  obtain ⟨C, fI, fd, T, ini, ty, at_, F1, hb⟩ := k
  refine ⟨?_⟩
  intro W ρ σ G_0 H_0 G H fp D tk s p
  refine wpSt_of (L2N.ps_raise Ct.calm tk (pmk_init T ini ty F1 room hb (L2N.passes_call tk fun _ _ _ _ h => h.elim) hg at_ (pa_wp X (e :: es)) hdb star plain)) ?_
  refine ha W (purE ρ) σ G H _ tk s.pure s.gr.ok (stP s p fun vs ds G1 H1 g r q => ?_)
  split at q
  · rename_i hl
    obtain ⟨hl, ne, few⟩ := hl
    have lv : vs.length = fs.length := by rw [r.len, hl]
    refine ⟨by omega, fun a hn => ⟨a, vs, by rw [List.append_nil], lv, upd_same, fun dx hd ne2 => ?_⟩⟩
    have hd1 : H1 dx = none := by
      rw [upd_ne ne2] at hd
      exact hd
    have eH : upd (del (upd (upd (upd H1 a (exo a C none)) dx (exd dx (fs.zip vs).reverse)) a (exo a C (some dx))) a) dx (.xd (fs.zip vs).reverse) = upd H1 dx (.xd (fs.zip vs).reverse) := by
      funext b
      by_cases h1 : b = dx
      · subst h1
        rw [upd_same, upd_same]
      · rw [upd_ne h1, upd_ne h1]
        by_cases h2 : b = a
        · subst h2
          rw [del_same, hn]
        · rw [del_ne h2, upd_ne h2, upd_ne h1, upd_ne h2]
    refine ⟨rfl, dx, _, upd_same, by rw [upd_ne ne2, upd_same], hd1, ?_⟩
    rw [eH]
    have g2 : Gr TS G1 H1 (upd G1 dx (.xd (fs.zip vs).reverse)) (upd H1 dx (.xd (fs.zip vs).reverse)) := Gr.new g.ok hd1
    refine q C (some dx) σ _ _ at_ ((s.gr.trans g).trans g2) (excRep_of ?_ upd_same ?_ ?_)
    · intro z
      have z := congrArg List.length z
      rw [List.length_reverse, List.length_zip, hl, Nat.min_self] at z
      rw [z] at ne
      exact Nat.lt_irrefl 0 ne
    · rw [List.map_reverse, List.map_reverse, zip_map1 lv, zip_map1 hl]
    · rw [List.map_reverse, List.map_reverse, zip_map2 lv, zip_map2 hl]
      exact rps_rev (r.mono g2.g)
  · exact q.elim
end
def PostSx (TS : TabList) (X : L2.Cx) (W : WX) (σ : L2.St) (G_0 H_0 G H : Hp) (D : Ends) : Res Fl → Prop
  | .alt f => ∀ i, PostSx TS X W σ G_0 H_0 G H D (f i)
  | .exc c fs => PostX TS X W σ G H c fs
  | .ok fl => PostS TS X W G_0 H_0 G D (.ok fl)
  | .bad => False
structure DSx (TS : TabList) (X : L2.Cx) (st : List Stmt) (F : Frm → Res Fl) : Prop where
  run : ∀ (W : WX) (ρ : Frm) (σ : L2.St) (G_0 H_0 G H : Hp) (fp : Nat → List Addr) (D : Ends), Takes X W → SI TS X.K G_0 H_0 ρ σ G H fp → PostSx TS X W σ G_0 H_0 G H D (F ρ) → wpSs X st D σ H
def sDropP (fe : En → Res D) : Frm → Res Fl := fun ρ => (fe (purE ρ)).bind fun _ => .ok (.next ρ)
section
variable {TS : TabList} {X : L2.Cx} {W : WX} {σ : L2.St} {ρ : Frm} {G_0 H_0 G H G1 H1 : Hp} {D : Ends} {fp : Nat → List Addr} {e c : Expr} {fe : En → Res Pyr.D} {ft : En → Res Bool} {F F1 F2 : Frm → Res Fl} {b1 b2 : List Stmt} {pos : Pos}
theorem PostSx.shift {r : Res Fl} (g : Gr TS G H G1 H1) (p : PostSx TS X W σ G_0 H_0 G H D r) : PostSx TS X W σ G_0 H_0 G1 H1 D r := by
  induction r with
  | ok fl => exact PostS.shift g.g p
  | exc c fs => exact PostX.shift g p
  | bad => exact p
  | alt f ih => exact fun i => ih i (p i)
theorem PostSx.tr {pn : List (Addr × Obj)} {xe : Value → Shared → Prop} {r : Res Fl} (p : PostSx TS X W σ G_0 H_0 G H D r) : PostSx TS (X.tr pn xe) W σ G_0 H_0 G H D r := by
  induction r with
  | ok fl => exact PostS.tr (show PostS TS X W G_0 H_0 G D (.ok fl) from p)
  | exc c fs => exact p
  | bad => exact p
  | alt f ih => exact fun i => ih i (p i)
theorem stX {α γ : Type} {Rel : Hp → Hp → Hp → γ → α → Prop} {r : Res α} {k : α → Res Fl} {R : γ → Hp → Prop} (p : PostSx TS X W σ G_0 H_0 G H D (r.bind k))
    (next : ∀ v x G1 H1, Gr TS G H G1 H1 → Rel H G1 H1 v x → PostSx TS X W σ G_0 H_0 G H D (k x) → R v H1) : PostG Rel TS X W σ G H r R := by
  induction r with
  | ok x => exact fun v G1 H1 g r => next v x G1 H1 g r p
  | exc c fs => exact p
  | bad => exact p
  | alt f ih => exact fun i => ih i (p i)
theorem dsx_drop (he : DE TS X e fe) (hs : swapsWith e none pos.line X.env = pure false := by rfl) : DSx TS X [.Expr e pos] (sDropP fe) := by
  refine ⟨?_⟩
  intro W ρ σ G_0 H_0 G H fp D tk s p
  refine wpSs_of (pss_one (ps_expr (pe_wp X e) hs)) ?_
  exact he W (purE ρ) σ G H _ tk s.pure s.gr.ok (stX p fun v d G1 H1 g r p => p _ G1 H1 fp g.g (s.grow g))
end
abbrev TabList.exf (TS : TabList) (a : Addr) (c : Str) (d : Option Addr) : TabList := { TS with ex := some (a, c, d) }
section
variable {TS : TabList} {a : Addr} {c : Str} {d : Option Addr} {G H G' H' : Hp} {K : PySem.W.Frag}
theorem Ok0.exf (k : Ok0 TS G H) : Ok0 (TS.exf a c d) G H := ⟨k.le, ⟨k.tb.all, k.tb.cs⟩, k.nt⟩
theorem Ok0.unexf (k : Ok0 (TS.exf a c d) G H) : Ok0 TS G H := ⟨k.le, ⟨k.tb.all, k.tb.cs⟩, k.nt⟩
theorem Gr.exf (g : Gr TS G H G' H') : Gr (TS.exf a c d) G H G' H' := ⟨g.g, g.h, g.nw, g.ok.exf⟩
theorem Gr.unexf (g : Gr (TS.exf a c d) G H G' H') : Gr TS G H G' H' := ⟨g.g, g.h, g.nw, g.ok.unexf⟩
theorem RpO.exf {l : List Addr} {v : V} {o : Own} (hx : TS.ex = none) (r : RpO TS K G H l v o) : RpO (TS.exf a c d) K G H l v o := by
  cases r with
  | lst h r => exact .lst h r
  | set h => exact .set ⟨h.ex⟩
  | tup h n q => exact .tup h n q
  | dic h r => exact .dic h r
  | dil h z d n q => exact .dil h z d n q
  | mix h n q r => exact .mix h n q r
  | strm h => exact .strm h
  | exc h =>
    cases h with
    | cls h =>
      rw [hx] at h
      cases h
    | fld h =>
      rw [hx] at h
      cases h
theorem SI.exf {G_0 H_0 : Hp} {ρ : Frm} {σ : L2.St} {fp : Nat → List Addr} (hx : TS.ex = none) (s : SI TS K G_0 H_0 ρ σ G H fp) : SI (TS.exf a c d) K G_0 H_0 ρ σ G H fp :=
  ⟨s.gr.exf, s.len, s.val, fun i o h => let ⟨v, h1, h2⟩ := s.own i o h; ⟨v, h1, h2.exf hx⟩, s.apart, s.free⟩
end
theorem PostS.ofOutF {TS : TabList} {X : L2.Cx} {W : WX} {a : Addr} {c : Str} {d : Option Addr} {G_0 H_0 G : Hp} {D : Ends} : ∀ {r : Res Fl}, PostS TS X W G_0 H_0 G D ((outV r).map Fl.ret) → PostS (TS.exf a c d) X (fun _ _ _ _ => False) G_0 H_0 G D r := fun {r} => by
  induction r with
  | ok fl =>
    cases fl with
    | ret v =>
      cases v <;> exact fun p u G' H' g => p u G' H' g.unexf
    | _ => exact fun p => p.elim
  | exc d fs => exact fun p => p.elim
  | bad => exact fun p => p.elim
  | alt f ih => exact fun p i => ih i (p i)
theorem PostS.rtOf {TS : TabList} {X : L2.Cx} {W : WX} {G_0 H_0 G : Hp} {D : Ends} {n b c : L2.St → Hp → Prop} : ∀ {r : Res RV}, PostS TS X W G_0 H_0 G D (r.map Fl.ret) → PostS TS X W G_0 H_0 G { nx := n, rt := D.rt, bk := b, ct := c } (r.map Fl.ret) := fun {r} => by
  induction r with
  | ok v => cases v <;> exact fun p => p
  | exc d fs => exact fun p => p
  | bad => exact fun p => p
  | alt f ih => exact fun p i => ih i (p i)
def xiD (c : Str) : List (Str × D) → D
  | [] => .str c
  | fs => xfD c fs
def sTryF (ct : CtTab) (i : Nat) (Fb Fs : Frm → Res Fl) : Frm → Res Fl := fun ρ => match Fb ρ with
  | .exc c fs => (match ctT ct c with
    | some true => (outV (Fs (ρ.set i (.own (.exc (xiD c fs)))))).map .ret
    | some false => .exc c fs
    | none => .bad)
  | .alt _ => .bad
  | r => r
section
variable {TS : TabList} {X : L2.Cx} {i : Nat} {pos : Pos}
theorem ds_tryF {x n : Str} {body suite : List Stmt} {b₀ : Stmt} {Fb Fs : Frm → Res Fl} {ct : CtTab} {np pos' : Pos} (hs : X.stack = X.env :: X.outer) (hf : X.env.frame = some X.env.locals) (hN : X.N.Nodup) (hi : X.N[i]? = some n) (hln : X.env.kindOf n = some .local)
    (hgx : Gl X x) (hdx : (x == ("__debug__" : Str)) = false) (T : CtT X.K X.mg x ct) (hx : TS.ex = none) (hb : ∀ (pn : List (Addr × Obj)) (xe : Value → Shared → Prop), DSx TS (X.tr pn xe) body Fb)
    (hsu : ∀ (a : Addr) (oe : Obj) (C : Addr) (pn : List (Addr × Obj)) (c : Str) (d : Option Addr), X.mg c = some (.ref C) → L2N.Zn (.ref C) d oe → (∃ vs, oe.data = .fields vs) → DSs (TS.exf a c d) (X.suite a ((a, oe) :: pn)) (b₀ :: suite) Fs) :
    DSt TS X (.Try body [.ExceptHandler (some (.Name x np)) (some n) (b₀ :: suite) pos'] [] [] pos) (sTryF ct i Fb Fs) := by
  refine ⟨?_⟩
  intro W ρ σ G_0 H_0 G H fp D tk s p
  obtain ⟨Dx, hD, hct⟩ := T
  refine wpSt_of (L2N.ps_try_as (i := i) (c := .ref Dx) (tb := fun W' => fun D σ H => ∃ (ρ : Frm) (G_0 H_0 G : Hp) (fp : Nat → List Addr), SI TS X.K G_0 H_0 ρ σ G H fp ∧ PostSx TS X W' σ G_0 H_0 G H D (Fb ρ))
    (ts := fun a cls d => fun D σ H => ∃ (ρ : Frm) (σ0 : L2.St) (G_0 H_0 G : Hp) (W : WX) (c : Str) (C : Addr) (fs : List (Str × Pyr.D)) (fp : Nat → List Addr), σ = σ0.set i (some (.ref a)) ∧ cls = .ref C ∧ X.mg c = some (.ref C) ∧ SI TS X.K G_0 H_0 ρ σ0 G H fp ∧ ExcRep X.K G H d fs ∧
      PostS TS X W G_0 H_0 G D ((outV (Fs (ρ.set i (.own (.exc (xiD c fs)))))).map Fl.ret))
    (Wout := W) hs hf hN hi hln ⟨hgx, hdx, .inl hD⟩ tk (fun W' pn xe tk' _ => ⟨fun pins s1 σ1 H1 D1 I h => ?_⟩) (fun a oe cls d pn hz hfl => ⟨fun pins s1 σ1 H1 D1 I h => ?_⟩)) ?_
  · obtain ⟨ρ1, G0', H0', G1, fp1, s', p'⟩ := h
    exact (hb pn xe).run W' ρ1 σ1 G0' H0' G1 H1 fp1 D1 tk' s' p'.tr pins s1 I
  · obtain ⟨ρ1, σ0, G0', H0', G1, W1, c, C, fs, fp1, rfl, rfl, hc, s', er, p'⟩ := h
    have sx : SI (TS.exf a c d) X.K G0' H0' (ρ1.set i (.own (.exc (xiD c fs)))) (σ0.set i (some (.ref a))) G1 H1 (setFp fp1 i []) := by
      refine (s'.exf hx).setOwn (l := []) (.exc ?_) (fun b hb => nomatch hb) fun _ _ _ _ b hb => nomatch hb
      cases fs with
      | nil =>
        have e : d = none := er
        subst e
        exact .cls rfl
      | cons f fs =>
        obtain ⟨dd, vfs, rfl, h1, h2, h3⟩ := er
        exact .fld rfl h1 h2 h3
    exact (hsu a oe C pn c d hc hz hfl).run _ _ _ G0' H0' G1 H1 _ D1 takes0 sx p'.suite.ofOutF pins s1 I
  · refine ⟨ρ, G_0, H_0, G, fp, s, ?_⟩
    unfold sTryF at p
    cases hf1 : Fb ρ with
    | ok fl =>
      rw [hf1] at p
      cases fl with
      | next ρ' => exact p
      | ret r => cases r <;> exact p
      | brk ρ' => exact p
      | cont ρ' => exact p
    | alt f =>
      rw [hf1] at p
      exact p.elim
    | bad =>
      rw [hf1] at p
      exact p.elim
    | exc c fs =>
      rw [hf1] at p
      intro C d G' H' hc g hr
      have p : PostS TS X W G_0 H_0 G D (match ctT ct c with
        | some true => (outV (Fs (ρ.set i (.own (.exc (xiD c fs)))))).map .ret
        | some false => .exc c fs
        | none => .bad) := p
      unfold ctT at p
      cases hq : ct.find? fun p => p.1 == c with
      | none =>
        rw [hq] at p
        exact p.elim
      | some t =>
        rw [hq] at p
        have hm1 := List.mem_of_find?_eq_some hq
        have hp := List.find?_some hq
        rw [beq_iff_eq] at hp
        subst hp
        obtain ⟨C', hc', hx'⟩ := hct t hm1
        rw [hc] at hc'
        cases hc'
        have p : PostS TS X W G_0 H_0 G D (match some t.2 with
          | some true => (outV (Fs (ρ.set i (.own (.exc (xiD t.1 fs)))))).map .ret
          | some false => .exc t.1 fs
          | none => .bad) := p
        refine ⟨t.2, hx', fun hb a ha => ⟨ρ, σ, G_0, H_0, G', W, t.1, C, fs, fp, rfl, rfl, hc, s.grow g, hr, ?_⟩, fun hb => ?_⟩
        · rw [hb] at p
          exact PostS.rtOf (p.shift g.g)
        · rw [hb] at p
          exact p C d σ G' H' hc (s.gr.trans g) hr
end
def fldD (f : Str) : List D → Option D
  | [] => none
  | .tuple [.str g, d] :: r => if g = f then some d else fldD f r
  | _ :: _ => none
def eXf (tb : List (Str × Str)) (i : Nat) (f : Str) : En → Res D := fun ρ => match ρ[i]? with
  | some (some (.dict [(.bool false, .list (.str c :: es))])) => if (c, f) ∈ tb then (match fldD f es with
    | some d => .ok d
    | none => .bad) else .bad
  | _ => .bad
def XfT (K : PySem.W.Frag) (mg : Str → Option Value) (tb : List (Str × Str)) : Prop := ∀ p ∈ tb, ∃ C, mg p.1 = some (.ref C) ∧ L2.XfC K C ∧ PySem.W.findIn K (.ref C) p.2 = some none
theorem fldD_at {K : PySem.W.Frag} {G : Hp} {f : Str} {d : D} : ∀ {fs : List (Str × D)} {vfs : List (Str × V)}, vfs.map (·.1) = fs.map (·.1) → Rps K G (vfs.map (·.2)) (fs.map (·.2)) → fldD f (fs.map fun p => .tuple [.str p.1, p.2]) = some d → ∃ v, vfs.lookup f = some v ∧ Rp K G v d
  | [], _, _, _, h => by cases h
  | (g, x) :: fs, [], e, _, _ => by cases e
  | (g, x) :: fs, (g', y) :: vfs, e, r, h => by
    rw [List.map_cons, List.map_cons] at e
    obtain ⟨e1, e2⟩ := List.cons.inj e
    have e1 : g' = g := e1
    subst e1
    cases r with
    | cons r rs =>
      have h : (if g' = f then some x else fldD f (fs.map fun p => .tuple [.str p.1, p.2])) = some d := h
      by_cases q : g' = f
      · rw [if_pos q] at h
        cases h
        subst q
        exact ⟨y, by simp [List.lookup], r⟩
      · rw [if_neg q] at h
        obtain ⟨v, h1, h2⟩ := fldD_at e2 rs h
        refine ⟨v, ?_, h2⟩
        have z : (f == g') = false := by
          rw [beq_eq_false_iff_ne]
          exact fun w => q w.symm
        rw [List.lookup, z]
        exact h1
section
variable {TS : TabList} {Y : L2.Cx} {a C : Addr} {oe : Obj} {pn : List (Addr × Obj)} {tb : List (Str × Str)} {i : Nat} {n c f : Str} {d : Option Addr} {p2 pos : Pos}
theorem de_xf (T : XfT Y.K Y.mg tb) (hc : Y.mg c = some (.ref C)) (hz : Zc (.ref C) d oe) (hf : ∃ vs, oe.data = .fields vs) (hN : Y.N[i]? = some n) (hv : Vis Y.env.scope n)
    (hd : (n == ("__debug__" : Str)) = false := by decide) (hcd : (n == ("__classdict__" : Str)) = false := by decide)
    (hb : attributeBase (.Name n p2) f Y.env (eval (.Name n p2) Y.env) = eval (.Name n p2) Y.env := by rfl) :
    DE (TS.exf a c d) (Y.suite a ((a, oe) :: pn)) (.Attribute (.Name n p2) f pos) (eXf tb i f) := by
  refine ⟨fun W ρ σ G H Q tk re ok post => ?_⟩
  unfold eXf at post
  split at post
  · rename_i c' es hi
    obtain ⟨a', h1, h2⟩ := re.ex i _ hi
    generalize hx : (PyData.list (.str c' :: es)) = x at h2
    cases h2 with
    | cls h => cases hx
    | fld h g1 g2 g3 =>
      cases h
      cases hx
      split at post
      · rename_i hm
        split at post
        · rename_i d' hfl
          obtain ⟨C', m1, T1, T2⟩ := T _ hm
          rw [hc] at m1
          cases m1
          obtain ⟨v, l, r⟩ := fldD_at g2 g3 hfl
          refine wpE_of (X := Y.suite a ((a, oe) :: pn)) (pe_xf (X := Y) (cls := .ref C) T1 T2 hz hf (pe_var (i := i) hN hv hd hcd) hb) ?_
          exact ⟨_, h1, rfl, rfl, _, _, v, rfl, ok.le _ _ g1, l, post v G H (Gr.refl ok) r⟩
        · exact post.elim
      · exact post.elim
  · exact post.elim
end
def FNone (K : PySem.W.Frag) (C : Addr) : List Str → Prop
  | [] => True
  | f :: r => PySem.W.findIn K (.ref C) f = some none ∧ FNone K C r
def metS (st : Stmt) (j : Nat) : Stmt := match st with
  | .ClassDef _ _ _ body _ _ _ _ _ _ _ => body.getD j st
  | _ => st
def InitQ (K : PySem.W.Frag) (x qual : Str) (fs : List Str) (st : Stmt) : Prop := ∃ (C fI : Addr) (oc : Value) (od an : Option Addr) (sl : Array (Option Value)) (kV doc pm cd ct : Value),
  PySem.W.nsIn K mainGlobals x = some (some (.ref C)) ∧ OexC K C ∧ PySem.W.findIn K (.ref C) "__init__" = some (some (.ref fI)) ∧ PySem.W.typeIn K (.ref fI) = some (.type "function") ∧
    K.lookup fI = some ⟨oc, od, .func (PySem.W.fnOf "__init__" qual (defArgs st) (defBody st) (defScope st) .none kV doc pm an cd ct), sl⟩ ∧ PySem.W.codeIn K cd qual = true ∧ PySem.W.keepIn K (.ref fI) = true ∧ FNone K C fs
def BindOkM (qual : Str) (st : Stmt) (ps : List Str) : Prop := ∀ (kV doc pm : Value) (an : Option Addr) (cdv ct : Value) (us : List Value), us.length = ps.length → bindArgs (PySem.W.fnOf "__init__" qual (defArgs st) (defBody st) (defScope st) .none kV doc pm an cdv ct) ⟨us, []⟩ = pure (ps.zip us)
def XfQ (K : PySem.W.Frag) (c f : Str) : Prop := ∃ C, PySem.W.nsIn K mainGlobals c = some (some (.ref C)) ∧ XfC K C ∧ PySem.W.findIn K (.ref C) f = some none
section
variable {P : Program} {w : World} {K : PySem.W.Frag} {mg : Str → Option Value} {base h : Heap} {x qual f1 f2 : Str} {st : Stmt}
theorem InitQ.known2 (i : InitQ K x qual [f1, f2] st) (X : K.In h) (G : h.Ns mainGlobals mg) (S : FnScope ["self", f1, f2] ["self", f1, f2] (defScope st)) (b : BindOkM qual st ["self", f1, f2]) {p1 p2 p3 p4 q1 q2 q3 q4 : Pos}
    (hb : defBody st = [.Assign [.Attribute (.Name "self" p1) f1 p2] (.Name f1 p3) p4, .Assign [.Attribute (.Name "self" q1) f2 q2] (.Name f2 q3) q4])
    (v0 : Vis (defScope st) "self") (v1 : Vis (defScope st) f1) (v2 : Vis (defScope st) f2) (d1 : (f1 == ("__debug__" : Str)) = false) (e1 : (f1 == ("__classdict__" : Str)) = false) (d2 : (f2 == ("__debug__" : Str)) = false) (e2 : (f2 == ("__classdict__" : Str)) = false) : KnownX P w K mg base x [f1, f2] := by
  obtain ⟨C, fI, oc, od, an, sl, kV, doc, pm, cd, ct, h1, h2, h3, h4, h5, h6, h7, h8, h9, _⟩ := i
  have F := fun_mk h5 h6 h7
  exact ⟨C, fI, _, h2, h3, h4, PySem.W.mg_of X G h1, init2 F h2 S hb v0 v1 v2 d1 e1 d2 e2 h8 h9, F.binds b⟩
theorem xfT_nil : XfT K mg [] := fun p hp => nomatch hp
theorem xfT_cons {c f : Str} {tb : List (Str × Str)} (X : K.In h) (G : h.Ns mainGlobals mg) (q : XfQ K c f) (r : XfT K mg tb) : XfT K mg ((c, f) :: tb) := fun p hp => by
  rcases List.mem_cons.mp hp with rfl | hp
  · obtain ⟨C, h1, h2, h3⟩ := q
    exact ⟨C, PySem.W.mg_of X G h1, h2, h3⟩
  · exact r p hp
end
end Pyr
set_option Elab.async false
set_option autoImplicit false
set_option linter.all false
set_option maxRecDepth 100000
set_option maxHeartbeats 4000000
namespace Pyr
open PySem PySem.Spec PyProof.Rows L2 Evl HotX
open L2H (Hot1 RoomH FnH cxH)
structure KnownH (TS : TabList) (P : Program) (w : World) (K : PySem.W.Frag) (mg : Str → Option Value) (base : Heap) (k : Nat) (x : Str) (ps : List Str) (m : List D → Res RV) : Prop where
  ex : ∃ f fd, FnH P w K mg base (L2N.CX P w) k f fd ps (spD TS K mg m) ∧ mg x = some (.ref f) ∧ PySem.W.keepIn K (.ref f) = true ∧ Binds K fd ps []
theorem knownH_of {TS : TabList} {P : Program} {w : World} {K : PySem.W.Frag} {mg : Str → Option Value} {base : Heap} {x : Str} {st : Stmt} {N ps : List Str} {k : Nat} {F : Frm → Res Fl} (d : Dfn K mg x st ps) (S : FnScope N ps (defScope st))
    (body : ∀ (f : Addr) (cdv : Value) (A : Around) (outer : List Env) (s : Shared) (H : Hp) (E : XK) (p : Addr × Obj), DSs TS (cxH (L2N.CX P w) P w K mg base N x (defScope st) f cdv A outer s H E p) (defBody st) F) :
    KnownH TS P w K mg base (k + 1) x ps (defM ps.length N.length F) := by
  obtain ⟨f, fd, Fn, hm, hb⟩ := d
  have kp := Fn.kp
  obtain ⟨_, _, _, _, _, _, c, _, _, rfl, lk, hcd⟩ := Fn.ex
  refine ⟨f, _, L2H.fn_ofH lk hcd S (fun vs H Q E h => ?_) (fun A outer s H vs Q E p hot hr h => ?_), hm, kp, hb⟩
  · obtain ⟨G, ds, r, ok, p⟩ := h
    unfold defM at p
    split at p
    · rename_i e
      rw [r.len, e]
    · exact p.elim
  · obtain ⟨G, ds, r, ok, p'⟩ := h
    unfold defM at p'
    split at p'
    · refine ⟨_, pss_wp _ _, body f c A outer s H E p (fun cls d _ H => E cls d H) (frm0 N.length ds) (L2.start N vs) G H G H (fun _ => []) _ (takes_of rfl rfl rfl rfl) (SI.start ok r) ?_⟩
      revert p'
      generalize F (frm0 N.length ds) = r
      intro p'
      induction r with
      | ok fl =>
        cases fl with
        | next ρ => exact fun σ' G' H' fp' _ s' => p' .non G' H' s'.gr .non
        | ret rv => cases rv <;> exact p'
        | brk ρ => exact p'.elim
        | cont ρ => exact p'.elim
      | exc c fs => exact fun C d _ G' H' m g r => p' C d G' H' m g r
      | bad => exact p'.elim
      | alt f ih => exact fun i => ih i (p' i)
    · exact p'.elim
theorem KnownH.cast {TS : TabList} {P : Program} {w : World} {K : PySem.W.Frag} {mg : Str → Option Value} {base : Heap} {k : Nat} {x : Str} {ps : List Str} {m m' : List D → Res RV} (e : m' = m) (h : KnownH TS P w K mg base k x ps m) : KnownH TS P w K mg base k x ps m' := by
  rw [e]
  exact h
theorem roomS {k : Nat} {A : Around} {h : Option Value} (r : Room k A) : RoomH k (A.mark h) := ⟨r.dp, r.un⟩
def eCallV (m : List D → Res RV) (fr : En → Res (List D)) : En → Res D := fun ρ => (fr ρ).bind fun ds => match m ds with
  | .ok (.val d) => .ok d
  | _ => .bad
section
variable {TS : TabList} {X : L2.Cx} {p' : Addr × Obj} {a : Expr} {es : List Expr} {fr : En → Res (List D)} {pos p : Pos} {x : Str} {ps : List Str} {k k' : Nat} {m : List D → Res RV}
theorem de_callH (F : KnownH TS X.prog X.w X.K X.mg X.base k x ps m) (C : CtB X p') (hr : RoomH k' X.A) (hk : k ≤ k') (hg : Gl X x) (ha : DA TS X (a :: es) fr) (hdb : (x == ("__debug__" : Str)) = false := by decide)
    (he : starEach (a :: es) X.env = (false, eval a X.env) :: starEach es X.env := by rfl) (hpl : (backTo pos (starEach es X.env)).any (·.1) = false := by rfl) : DE TS X (.Call (.Name x p) (a :: es) [] pos) (eCallV m fr) := by
  refine ⟨?_⟩
  intro W ρ σ G H Q tk re ok post
  obtain ⟨f, fd, F, hm, hkp, hb⟩ := F.ex
  refine wpE_of (L2H.pe_callH (E := fun σ => WE W σ) F (hr.mono hk) ⟨p', C.hot, C.pn⟩ hg hm hkp hb (fun σ => passAt tk σ) (pa_wp X (a :: es)) hdb he hpl) ?_
  refine bindP (wp := fun R => wpA X (a :: es) σ H R) back_E (fun Q' p => ha W ρ σ G H Q' tk re ok p) post fun vs ds G1 H1 _ g1 rs p => ?_
  refine ⟨G1, ds, rs, g1.ok, ?_⟩
  revert p
  generalize m ds = r
  intro p
  cases r with
  | ok r =>
    cases r with
    | val d => exact p
    | _ => exact p.elim
  | _ => exact p.elim
end
def sForX (t : Tg) (fi : En → Res (List D)) (F : Frm → Res Fl) : Frm → Res Fl := fun ρ => (fi (purE ρ)).bind fun ds => forF t F ds ρ
theorem ds_forX {TS : TabList} {X : L2.Cx} {tg iter : Expr} {fi : En → Res (List D)} {F : Frm → Res Fl} {body : List Stmt} {pos : Pos} {t : Tg} (C : CtE X) (hp : PassesOwn (model X.prog X.w) X.A X.env X.xe) (hi : DI TS X tg iter fi) (hg : PG X tg (gTg X.K t)) (hb : DSs TS X body F)
    (hs : ∀ x, foldedSetIterable iter X.env x = pure x := by intro _; rfl) : DSt TS X (.For tg iter body [] pos) (sForX t fi F) := by
  refine ⟨?_⟩
  intro W ρ σ G_0 H_0 G H fp Dn tk s p
  refine wpSt_of (ps_for hp C.calm (pi_wp X tg iter) hg (pss_wp X body) hs) ?_
  exact hi W (purE ρ) σ G H _ tk s.pure s.gr.ok (stP s p fun J ds G1 H1 g wk p => for_core hb tk wk (s.grow g) (Ex.refl G1) (p.shift g.g))
end Pyr
set_option Elab.async false
set_option autoImplicit false
set_option linter.all false
set_option maxRecDepth 100000
set_option maxHeartbeats 4000000
namespace K31
open PySem PySem.Spec PyProof.Rows L2 Evl Pyr
def topS (i : Nat) : Stmt := PySem.Challenge.pw_wishshown_k31_words_wrong_at_their_place.main.body.getD i (.Pass ⟨0, 0, 0, 0⟩)
abbrev eL (f : En → Res (List D)) : En → Res D := fun ρ => (f ρ).map .list
abbrev xfTab : List (Str × Str) := [(("BadText" : Str), ("line" : Str)), (("BadText" : Str), ("column" : Str))]
abbrev mt_BadText : Stmt := metS (topS 14) 0
theorem ms_BadText : FnScope ["self", "line", "column"] ["self", "line", "column"] (defScope mt_BadText) := ⟨rfl, rfl, rfl, by decide +kernel, rfl, by decide +kernel, by decide +kernel⟩
theorem bm_BadText : BindOkM "BadText.__init__" mt_BadText ["self", "line", "column"] := fun _ _ _ _ _ _ us hl => match us, hl with | [_, _, _], _ => rfl
abbrev ctTab_BadText : CtTab := [("BadText", true)]
noncomputable section
variable {CL : List Addr} {P : Program} {w : World} {K : PySem.W.Frag} {mg : Str → Option Value} {base : Heap}
abbrev s__law_draws : Stmt := topS 80
abbrev N__law_draws : List Str := ["script", "count", "rests", "draws", "k", "value", "cell", "at", "mixed"]
theorem sc__law_draws : FnScope N__law_draws ["script", "count"] (defScope s__law_draws) := ⟨rfl, rfl, rfl, by decide +kernel, rfl, by decide +kernel, by decide +kernel⟩
theorem bo__law_draws : BindOk "_law_draws" s__law_draws ["script", "count"] := fun _ _ _ _ _ _ us hl => match us, hl with | [_, _], _ => rfl
def B__law_draws_0 : Frm → Res Fl := (sSeq (sSet 5 (eC (.int 0)))
  (sSeq (sIf (tE boolD (e2 gtD (eN (oneD lenD) (aC (eVar 2) a0)) (eC (.int 0)))) (sSeq (sSet 7 (e2 modD (eN (oneD int2D) (aC (eVar 4) a0)) (eN (oneD lenD) (aC (eVar 2) a0))))
  (sIf (tE boolD (e2 geD (eIxV 2 (eVar 7)) (e2 powD (eC (.int 10)) (eC (.int 18))))) (sSeq (sSet 5 (e2 modD (eN (oneD int2D) (aC (eIxV 2 (eVar 7)) a0)) (eC (.int 1000))))
  (sPut 2 (eVar 7) (e2 fdivD (eIxV 2 (eVar 7)) (eC (.int 1000))))) (sSeq (sSet 8 (e2 modD (eN (oneD int2D) (aC (e2 addD (e2 addD (e2 mul2D (eIxV 2 (eVar 7)) (eC (.int 48271))) (e2 mul2D (eVar 4) (eC (.int 69621)))) (eC (.int 11))) a0)) (eC (.int 2147483647))))
  (sSeq (sSet 8 (e2 modD (eN (oneD int2D) (aC (e2 addD (e2 mul2D (eVar 8) (eC (.int 16807))) (eVar 7)) a0)) (eC (.int 2147483629))))
  (sSet 5 (e2 modD (eN (oneD int2D) (aC (e2 fdivD (eVar 8) (eC (.int 7))) a0)) (eC (.int 1000)))))))) sNext)
  (sKill [7, 8] (sSeq (sApp 3 (eVar 5))
  (sKill [4, 5, 7, 8] sNext)))))
def T__law_draws_3 : Frm → Res Fl := (sKill [4, 5, 7, 8] (sRetO 3))
def T__law_draws_2 : Frm → Res Fl := (sKill [0, 4, 5, 6, 7, 8] (sSeq (sForR (Tg.nm 4) (iF r1D (eVar 1)) B__law_draws_0)
  T__law_draws_3))
def T__law_draws_1 : Frm → Res Fl := (sSeq (sSetL 3 (lN a0))
  T__law_draws_2)
def F__law_draws : Frm → Res Fl := (sSeq (sSetL 2 (lComp [6] (Tg.nm 6) (iF walkD (eVar 0)) tYesR (eVar 6)))
  T__law_draws_1)
noncomputable def m__law_draws : List D → Res RV := hid (defM 2 9 F__law_draws)
theorem u__law_draws : m__law_draws = defM 2 9 F__law_draws := hid_eq _
theorem kn__law_draws (z_int : mg "int" = none) (z_len : mg "len" = none) (z_range : mg "range" = none) (d : Dfn K mg "_law_draws" s__law_draws ["script", "count"]) : Known (TabList.mk CL P w) P w K mg base 1 "_law_draws" ["script", "count"] m__law_draws := Known.cast u__law_draws (known_of (F := F__law_draws) (N := N__law_draws) d sc__law_draws fun f cdv A outer s H E hr => by
  have C : CtE (cxOf (L2N.CX P w) P w K mg base N__law_draws "_law_draws" (defScope s__law_draws) f cdv A outer s H E) := ⟨rfl, sc__law_draws.nd, room_ct hr⟩
  exact (dss_cons (ds_setLc 2 C (di_any (de_var 0)) (blkOk_by (N := N__law_draws) (sc := defScope s__law_draws) (own := [("cell", 6)]) (by decide +kernel)) (by decide) (fun _ _ _ _ _ => (pg_name (i := 6) C.blk.nd rfl (by first | exact Or.inl rfl | exact Or.inr rfl))) (fun _ _ _ _ _ => dts_nil) (fun _ _ _ _ _ => (de_var 6)) (sw_true rfl rfl rfl rfl))
  (dss_cons (ds_setL 3 (dl_lst da_nil) C)
  (dss_kill [0, 4, 5, 6, 7, 8] (dss_cons (ds_forR C (passes_of rfl) (fw_range1 (by rfl) z_range (de_var 1)) (pg_name (i := 4) C.nd rfl (by first | exact Or.inl rfl | exact Or.inr rfl)) (dss_cons (ds_set 5 de_int C)
  (dss_cons (ds_if (dt_cmp od_gt (de_callB cd_len (by rfl) z_len bt_len (da_cons (de_var 2) da_nil)) de_int) (dss_cons (ds_set 7 (de_bin od_mod (de_callTy cd_int2 (by rfl) z_int bt_int (da_cons (de_var 4) da_nil)) (de_callB cd_len (by rfl) z_len bt_len (da_cons (de_var 2) da_nil))) C)
  (dss_one (ds_if (dt_cmp od_ge (de_ixV 2 (de_var 7)) (de_bin od_pow de_int de_int)) (dss_cons (ds_set 5 (de_bin od_mod (de_callTy cd_int2 (by rfl) z_int bt_int (da_cons (de_ixV 2 (de_var 7)) da_nil)) de_int) C)
  (dss_one (ds_put 2 (de_bin od_fdiv (de_ixV 2 (de_var 7)) de_int) (de_var 7)))) (dss_cons (ds_set 8 (de_bin od_mod (de_callTy cd_int2 (by rfl) z_int bt_int (da_cons (de_bin od_add (de_bin od_add (de_bin od_mul2 (de_ixV 2 (de_var 7)) de_int) (de_bin od_mul2 (de_var 4) de_int)) de_int) da_nil)) de_int) C)
  (dss_cons (ds_set 8 (de_bin od_mod (de_callTy cd_int2 (by rfl) z_int bt_int (da_cons (de_bin od_add (de_bin od_mul2 (de_var 8) de_int) (de_var 7)) da_nil)) de_int) C)
  (dss_one (ds_set 5 (de_bin od_mod (de_callTy cd_int2 (by rfl) z_int bt_int (da_cons (de_bin od_fdiv (de_var 8) de_int) da_nil)) de_int) C))))))) dss_nil)
  (dss_kill [7, 8] (dss_cons (ds_app 3 (de_var 5))
  (dss_kill [4, 5, 7, 8] dss_nil))))))
  (dss_kill [4, 5, 7, 8] (dss_one (ds_retO 3))))))))
abbrev s__law_pool : Stmt := topS 81
abbrev N__law_pool : List Str := ["first", "second", "many", "signs", "size", "text", "place", "step", "k"]
theorem sc__law_pool : FnScope N__law_pool ["first", "second", "many"] (defScope s__law_pool) := ⟨rfl, rfl, rfl, by decide +kernel, rfl, by decide +kernel, by decide +kernel⟩
theorem bo__law_pool : BindOk "_law_pool" s__law_pool ["first", "second", "many"] := fun _ _ _ _ _ _ us hl => match us, hl with | [_, _, _], _ => rfl
def T__law_pool_6 : Frm → Res Fl := (sRetL (lComp [8] (Tg.nm 8) (iF r1D (eVar 2)) tYesR (e2 addD (e2 addD (eSlice (eVar 5) oNone (oSome (eVar 6))) (e2 atD (eVar 3) (e2 modD (eN (oneD int2D) (aC (e2 addD (eVar 1) (e2 mul2D (eVar 7) (eVar 8))) a0)) (eC (.int 36))))) (eSlice (eVar 5) (oSome (eVar 6)) oNone))))
def T__law_pool_5 : Frm → Res Fl := (sSeq (sSet 7 (e2 addD (eC (.int 1)) (e2 mul2D (eC (.int 4)) (e2 modD (eN (oneD int2D) (aC (e2 fdivD (eVar 1) (eC (.int 4))) a0)) (eC (.int 2))))))
  T__law_pool_6)
def T__law_pool_4 : Frm → Res Fl := (sSeq (sSet 6 (e2 modD (eN (oneD int2D) (aC (eVar 1) a0)) (e2 addD (eVar 4) (eC (.int 1)))))
  T__law_pool_5)
def T__law_pool_3 : Frm → Res Fl := (sSeq (sSet 5 (eJoin (eC (.str "")) (eL (lComp [8] (Tg.nm 8) (iF r1D (eVar 4)) tYesR (e2 atD (eVar 3) (e2 modD (eN (oneD int2D) (aC (e2 addD (eVar 0) (e2 mul2D (e2 mul2D (eC (.int 7)) (eVar 8)) (e2 addD (eC (.int 1)) (e2 modD (eN (oneD int2D) (aC (eVar 1) a0)) (eC (.int 3)))))) a0)) (eC (.int 36))))))))
  T__law_pool_4)
def T__law_pool_2 : Frm → Res Fl := (sSeq (sIf (tE boolD (e2 eqD (e2 modD (eN (oneD int2D) (aC (eVar 0) a0)) (eC (.int 9))) (eC (.int 8)))) (sSet 4 (eC (.int 11))) sNext)
  T__law_pool_3)
def T__law_pool_1 : Frm → Res Fl := (sSeq (sSet 4 (e2 modD (eN (oneD int2D) (aC (eVar 0) a0)) (eC (.int 4))))
  T__law_pool_2)
def F__law_pool : Frm → Res Fl := (sSeq (sSet 3 (eC (.str "abcdefghijklmnopqrstuvwxyz0123456789")))
  T__law_pool_1)
noncomputable def m__law_pool : List D → Res RV := hid (defM 3 9 F__law_pool)
theorem u__law_pool : m__law_pool = defM 3 9 F__law_pool := hid_eq _
theorem kn__law_pool (z_int : mg "int" = none) (z_range : mg "range" = none) (d : Dfn K mg "_law_pool" s__law_pool ["first", "second", "many"]) : Known (TabList.mk CL P w) P w K mg base 1 "_law_pool" ["first", "second", "many"] m__law_pool := Known.cast u__law_pool (known_of (F := F__law_pool) (N := N__law_pool) d sc__law_pool fun f cdv A outer s H E hr => by
  have C : CtE (cxOf (L2N.CX P w) P w K mg base N__law_pool "_law_pool" (defScope s__law_pool) f cdv A outer s H E) := ⟨rfl, sc__law_pool.nd, room_ct hr⟩
  exact (dss_cons (ds_set 3 de_str C)
  (dss_cons (ds_set 4 (de_bin od_mod (de_callTy cd_int2 (by rfl) z_int bt_int (da_cons (de_var 0) da_nil)) de_int) C)
  (dss_cons (ds_if (dt_cmp (od_eq C) (de_bin od_mod (de_callTy cd_int2 (by rfl) z_int bt_int (da_cons (de_var 0) da_nil)) de_int) de_int) (dss_one (ds_set 4 de_int C)) dss_nil)
  (dss_cons (ds_set 5 (de_join de_str (dl_comp C (di_range1 (by rfl) z_range (de_var 4)) (blkOk_by (N := N__law_pool) (sc := defScope s__law_pool) (own := [("k", 8)]) (by decide +kernel)) (by decide) (fun _ _ _ _ _ => (pg_name (i := 8) C.blk.nd rfl (by first | exact Or.inl rfl | exact Or.inr rfl))) (fun _ _ _ _ _ => dts_nil) (fun _ _ _ _ _ => (de_ix (de_var 3) (de_bin od_mod (de_callTy cd_int2 (by rfl) z_int bt_int (da_cons (de_bin od_add (de_var 0) (de_bin od_mul2 (de_bin od_mul2 de_int (de_var 8)) (de_bin od_add de_int (de_bin od_mod (de_callTy cd_int2 (by rfl) z_int bt_int (da_cons (de_var 1) da_nil)) de_int)))) da_nil)) de_int)))).de) C)
  (dss_cons (ds_set 6 (de_bin od_mod (de_callTy cd_int2 (by rfl) z_int bt_int (da_cons (de_var 1) da_nil)) (de_bin od_add (de_var 4) de_int)) C)
  (dss_cons (ds_set 7 (de_bin od_add de_int (de_bin od_mul2 de_int (de_bin od_mod (de_callTy cd_int2 (by rfl) z_int bt_int (da_cons (de_bin od_fdiv (de_var 1) de_int) da_nil)) de_int))) C)
  (dss_one (ds_retL (dl_comp C (di_range1 (by rfl) z_range (de_var 2)) (blkOk_by (N := N__law_pool) (sc := defScope s__law_pool) (own := [("k", 8)]) (by decide +kernel)) (by decide) (fun _ _ _ _ _ => (pg_name (i := 8) C.blk.nd rfl (by first | exact Or.inl rfl | exact Or.inr rfl))) (fun _ _ _ _ _ => dts_nil) (fun _ _ _ _ _ => (de_bin od_add (de_bin od_add (de_slice (de_var 5) do_none (do_some (de_var 6))) (de_ix (de_var 3) (de_bin od_mod (de_callTy cd_int2 (by rfl) z_int bt_int (da_cons (de_bin od_add (de_var 1) (de_bin od_mul2 (de_var 7) (de_var 8))) da_nil)) de_int))) (de_slice (de_var 5) (do_some (de_var 6)) do_none)))))))))))))
abbrev s__law_schema_case : Stmt := topS 83
abbrev N__law_schema_case : List Str := ["names", "words", "case", "name", "lines", "places"]
theorem sc__law_schema_case : FnScope N__law_schema_case ["names", "words", "case"] (defScope s__law_schema_case) := ⟨rfl, rfl, rfl, by decide +kernel, rfl, by decide +kernel, by decide +kernel⟩
theorem bo__law_schema_case : BindOk "_law_schema_case" s__law_schema_case ["names", "words", "case"] := fun _ _ _ _ _ _ us hl => match us, hl with | [_, _, _], _ => rfl
def T__law_schema_case_4 : Frm → Res Fl := (sRet (eN tupD (aC (e2 atD (eVar 4) (e2 modD (eN (oneD int2D) (aC (eVar 2) a0)) (eC (.int 7)))) (aC (e2 atD (eVar 5) (e2 modD (eN (oneD int2D) (aC (eVar 2) a0)) (eC (.int 7)))) a0))))
def T__law_schema_case_3 : Frm → Res Fl := (sSeq (sSet 5 (eL (lN (aC (eC (.int 2)) (aC (eC (.int 3)) (aC (eC (.int 2)) (aC (eC (.int 4)) (aC (eC (.int 5)) (aC (eC (.int 0)) (aC (eC (.int 2)) a0))))))))))
  T__law_schema_case_4)
def T__law_schema_case_2 : Frm → Res Fl := (sSeq (sSet 4 (e2 addD (eVar 4) (eL (lN (aC (eL (lN (aC (eC (.str "table")) (aC (eVar 3) (aC (eC (.str "2")) (aC (eC (.str "key")) (aC (eC (.str "1")) (aC (eC (.str "1")) a0)))))))) (aC (eL (lN (aC (eC (.str "view")) (aC (eVar 3) (aC (eC (.str "2")) a0))))) (aC (eL (lN (aC (eC (.str "table")) (aC (eVar 3) (aC (eC (.str "1234567")) a0))))) a0)))))))
  T__law_schema_case_3)
def T__law_schema_case_1 : Frm → Res Fl := (sSeq (sSet 4 (eL (lN (aC (eL (lN (aC (eC (.str "table")) (aC (eVar 3) (aC (eC (.str "key")) a0))))) (aC (eL (lN (aC (eC (.str "table")) (aC (eVar 3) (aC (eC (.str "2")) (aC (eC (.str "1")) a0)))))) (aC (eL (lN (aC (eC (.str "table")) (aC (eVar 3) (aC (eC (.str "02")) a0))))) (aC (eL (lN (aC (eC (.str "table")) (aC (eVar 3) (aC (eC (.str "2")) (aC (eC (.str "key")) (aC (eC (.str "x")) a0))))))) a0)))))))
  T__law_schema_case_2)
def F__law_schema_case : Frm → Res Fl := (sSeq (sSet 3 (e2 atD (eVar 0) (eC (.int 0))))
  T__law_schema_case_1)
noncomputable def m__law_schema_case : List D → Res RV := hid (defM 3 6 F__law_schema_case)
theorem u__law_schema_case : m__law_schema_case = defM 3 6 F__law_schema_case := hid_eq _
theorem kn__law_schema_case (z_int : mg "int" = none) (d : Dfn K mg "_law_schema_case" s__law_schema_case ["names", "words", "case"]) : Known (TabList.mk CL P w) P w K mg base 1 "_law_schema_case" ["names", "words", "case"] m__law_schema_case := Known.cast u__law_schema_case (known_of (F := F__law_schema_case) (N := N__law_schema_case) d sc__law_schema_case fun f cdv A outer s H E hr => by
  have C : CtE (cxOf (L2N.CX P w) P w K mg base N__law_schema_case "_law_schema_case" (defScope s__law_schema_case) f cdv A outer s H E) := ⟨rfl, sc__law_schema_case.nd, room_ct hr⟩
  exact (dss_cons (ds_set 3 (de_ix (de_var 0) de_int) C)
  (dss_cons (ds_set 4 (dl_lst (da_cons (dl_lst (da_cons de_str (da_cons (de_var 3) (da_cons de_str da_nil)))).de (da_cons (dl_lst (da_cons de_str (da_cons (de_var 3) (da_cons de_str (da_cons de_str da_nil))))).de (da_cons (dl_lst (da_cons de_str (da_cons (de_var 3) (da_cons de_str da_nil)))).de (da_cons (dl_lst (da_cons de_str (da_cons (de_var 3) (da_cons de_str (da_cons de_str (da_cons de_str da_nil)))))).de da_nil))))).de C)
  (dss_cons (ds_set 4 (de_bin od_add (de_var 4) (dl_lst (da_cons (dl_lst (da_cons de_str (da_cons (de_var 3) (da_cons de_str (da_cons de_str (da_cons de_str (da_cons de_str da_nil))))))).de (da_cons (dl_lst (da_cons de_str (da_cons (de_var 3) (da_cons de_str da_nil)))).de (da_cons (dl_lst (da_cons de_str (da_cons (de_var 3) (da_cons de_str da_nil)))).de da_nil)))).de) C)
  (dss_cons (ds_set 5 (dl_lst (da_cons de_int (da_cons de_int (da_cons de_int (da_cons de_int (da_cons de_int (da_cons de_int (da_cons de_int da_nil)))))))).de C)
  (dss_one (ds_ret (de_tup (da_cons (de_ix (de_var 4) (de_bin od_mod (de_callTy cd_int2 (by rfl) z_int bt_int (da_cons (de_var 2) da_nil)) de_int)) (da_cons (de_ix (de_var 5) (de_bin od_mod (de_callTy cd_int2 (by rfl) z_int bt_int (da_cons (de_var 2) da_nil)) de_int)) da_nil))))))))))
abbrev s__law_view_case : Stmt := topS 84
abbrev N__law_view_case : List Str := ["names", "words", "case", "name", "lines", "places"]
theorem sc__law_view_case : FnScope N__law_view_case ["names", "words", "case"] (defScope s__law_view_case) := ⟨rfl, rfl, rfl, by decide +kernel, rfl, by decide +kernel, by decide +kernel⟩
theorem bo__law_view_case : BindOk "_law_view_case" s__law_view_case ["names", "words", "case"] := fun _ _ _ _ _ _ us hl => match us, hl with | [_, _, _], _ => rfl
def T__law_view_case_6 : Frm → Res Fl := (sRet (eN tupD (aC (e2 atD (eVar 4) (e2 modD (eN (oneD int2D) (aC (eVar 2) a0)) (eC (.int 10)))) (aC (e2 atD (eVar 5) (e2 modD (eN (oneD int2D) (aC (eVar 2) a0)) (eC (.int 10)))) a0))))
def T__law_view_case_5 : Frm → Res Fl := (sSeq (sSet 5 (eL (lN (aC (eC (.int 1)) (aC (eC (.int 3)) (aC (eC (.int 4)) (aC (eC (.int 7)) (aC (eC (.int 6)) (aC (eC (.int 6)) (aC (eC (.int 6)) (aC (eC (.int 9)) (aC (eC (.int 1)) (aC (eC (.int 2)) a0)))))))))))))
  T__law_view_case_6)
def T__law_view_case_4 : Frm → Res Fl := (sSeq (sSet 4 (e2 addD (eVar 4) (eL (lN (aC (eL (lN (aC (eC (.str "rule")) (aC (eC (.str "?0")) (aC (eC (.str "<-")) (aC (eVar 3) (aC (eC (.str "?0")) (aC (eC (.str ";")) (aC (eC (.str "?0")) (aC (eC (.str "=")) (aC (e2 atD (eVar 1) (eC (.int 0))) (aC (eC (.str ";")) a0)))))))))))) (aC (eL (lN (aC (eC (.str "view")) (aC (eC (.str "01")) a0)))) (aC (eL (lN (aC (eC (.str "view")) (aC (eC (.str "1")) (aC (eC (.str "1")) a0))))) a0)))))))
  T__law_view_case_5)
def T__law_view_case_3 : Frm → Res Fl := (sSeq (sSet 4 (e2 addD (eVar 4) (eL (lN (aC (eL (lN (aC (eC (.str "rule")) (aC (eC (.str "?0")) (aC (eC (.str "<-")) (aC (eVar 3) (aC (eC (.str "?0")) (aC (eC (.str ";")) (aC (eC (.str "=")) (aC (e2 atD (eVar 1) (eC (.int 0))) a0)))))))))) (aC (eL (lN (aC (eC (.str "rule")) (aC (eC (.str "?0")) (aC (eC (.str "<-")) (aC (eVar 3) (aC (eC (.str "?0")) (aC (eC (.str ",")) a0)))))))) a0))))))
  T__law_view_case_4)
def T__law_view_case_2 : Frm → Res Fl := (sSeq (sSet 4 (e2 addD (eVar 4) (eL (lN (aC (eL (lN (aC (eC (.str "rule")) (aC (eC (.str "?0")) (aC (eC (.str "<-")) (aC (eVar 3) (aC (eC (.str "?0")) (aC (eC (.str ";")) (aC (eC (.str "?0")) (aC (eC (.str "<-")) a0)))))))))) (aC (eL (lN (aC (eC (.str "rule")) (aC (eC (.str "?0")) (aC (eC (.str "<-")) (aC (eVar 3) (aC (eC (.str "?0")) (aC (eC (.str ",")) (aC (eC (.str "?1")) a0))))))))) a0))))))
  T__law_view_case_3)
def T__law_view_case_1 : Frm → Res Fl := (sSeq (sSet 4 (eL (lN (aC (eL (lN (aC (eC (.str "rule")) (aC (eC (.str "<-")) (aC (eVar 3) (aC (eC (.str "?0")) a0)))))) (aC (eL (lN (aC (eC (.str "rule")) (aC (eC (.str "?0")) (aC (eC (.str "<-")) (aC (eC (.str ",")) (aC (eVar 3) a0))))))) (aC (eL (lN (aC (eC (.str "rule")) (aC (eC (.str "?0")) (aC (eC (.str "<-")) (aC (eVar 3) (aC (eC (.str ";")) a0))))))) a0))))))
  T__law_view_case_2)
def F__law_view_case : Frm → Res Fl := (sSeq (sSet 3 (e2 atD (eVar 0) (eC (.int 0))))
  T__law_view_case_1)
noncomputable def m__law_view_case : List D → Res RV := hid (defM 3 6 F__law_view_case)
theorem u__law_view_case : m__law_view_case = defM 3 6 F__law_view_case := hid_eq _
theorem kn__law_view_case (z_int : mg "int" = none) (d : Dfn K mg "_law_view_case" s__law_view_case ["names", "words", "case"]) : Known (TabList.mk CL P w) P w K mg base 1 "_law_view_case" ["names", "words", "case"] m__law_view_case := Known.cast u__law_view_case (known_of (F := F__law_view_case) (N := N__law_view_case) d sc__law_view_case fun f cdv A outer s H E hr => by
  have C : CtE (cxOf (L2N.CX P w) P w K mg base N__law_view_case "_law_view_case" (defScope s__law_view_case) f cdv A outer s H E) := ⟨rfl, sc__law_view_case.nd, room_ct hr⟩
  exact (dss_cons (ds_set 3 (de_ix (de_var 0) de_int) C)
  (dss_cons (ds_set 4 (dl_lst (da_cons (dl_lst (da_cons de_str (da_cons de_str (da_cons (de_var 3) (da_cons de_str da_nil))))).de (da_cons (dl_lst (da_cons de_str (da_cons de_str (da_cons de_str (da_cons de_str (da_cons (de_var 3) da_nil)))))).de (da_cons (dl_lst (da_cons de_str (da_cons de_str (da_cons de_str (da_cons (de_var 3) (da_cons de_str da_nil)))))).de da_nil)))).de C)
  (dss_cons (ds_set 4 (de_bin od_add (de_var 4) (dl_lst (da_cons (dl_lst (da_cons de_str (da_cons de_str (da_cons de_str (da_cons (de_var 3) (da_cons de_str (da_cons de_str (da_cons de_str (da_cons de_str da_nil))))))))).de (da_cons (dl_lst (da_cons de_str (da_cons de_str (da_cons de_str (da_cons (de_var 3) (da_cons de_str (da_cons de_str (da_cons de_str da_nil)))))))).de da_nil))).de) C)
  (dss_cons (ds_set 4 (de_bin od_add (de_var 4) (dl_lst (da_cons (dl_lst (da_cons de_str (da_cons de_str (da_cons de_str (da_cons (de_var 3) (da_cons de_str (da_cons de_str (da_cons de_str (da_cons (de_ix (de_var 1) de_int) da_nil))))))))).de (da_cons (dl_lst (da_cons de_str (da_cons de_str (da_cons de_str (da_cons (de_var 3) (da_cons de_str (da_cons de_str da_nil))))))).de da_nil))).de) C)
  (dss_cons (ds_set 4 (de_bin od_add (de_var 4) (dl_lst (da_cons (dl_lst (da_cons de_str (da_cons de_str (da_cons de_str (da_cons (de_var 3) (da_cons de_str (da_cons de_str (da_cons de_str (da_cons de_str (da_cons (de_ix (de_var 1) de_int) (da_cons de_str da_nil))))))))))).de (da_cons (dl_lst (da_cons de_str (da_cons de_str da_nil))).de (da_cons (dl_lst (da_cons de_str (da_cons de_str (da_cons de_str da_nil)))).de da_nil)))).de) C)
  (dss_cons (ds_set 5 (dl_lst (da_cons de_int (da_cons de_int (da_cons de_int (da_cons de_int (da_cons de_int (da_cons de_int (da_cons de_int (da_cons de_int (da_cons de_int (da_cons de_int da_nil))))))))))).de C)
  (dss_one (ds_ret (de_tup (da_cons (de_ix (de_var 4) (de_bin od_mod (de_callTy cd_int2 (by rfl) z_int bt_int (da_cons (de_var 2) da_nil)) de_int)) (da_cons (de_ix (de_var 5) (de_bin od_mod (de_callTy cd_int2 (by rfl) z_int bt_int (da_cons (de_var 2) da_nil)) de_int)) da_nil))))))))))))
abbrev s__law_wish_case : Stmt := topS 85
abbrev N__law_wish_case : List Str := ["names", "words", "case", "cases", "places", "first", "other"]
theorem sc__law_wish_case : FnScope N__law_wish_case ["names", "words", "case"] (defScope s__law_wish_case) := ⟨rfl, rfl, rfl, by decide +kernel, rfl, by decide +kernel, by decide +kernel⟩
theorem bo__law_wish_case : BindOk "_law_wish_case" s__law_wish_case ["names", "words", "case"] := fun _ _ _ _ _ _ us hl => match us, hl with | [_, _, _], _ => rfl
def T__law_wish_case_5 : Frm → Res Fl := (sRet (eN tupD (aC (e2 atD (eVar 3) (e2 modD (eN (oneD int2D) (aC (eVar 2) a0)) (eC (.int 9)))) (aC (e2 atD (eVar 4) (e2 modD (eN (oneD int2D) (aC (eVar 2) a0)) (eC (.int 9)))) a0))))
def T__law_wish_case_4 : Frm → Res Fl := (sSeq (sSet 4 (eL (lN (aC (eN tupD (aC (eC (.int 0)) (aC (eC (.int 1)) a0))) (aC (eN tupD (aC (eC (.int 0)) (aC (eC (.int 3)) a0))) (aC (eN tupD (aC (eC (.int 0)) (aC (eC (.int 3)) a0))) (aC (eN tupD (aC (eC (.int 0)) (aC (eC (.int 0)) a0))) (aC (eN tupD (aC (eC (.int 2)) (aC (eC (.int 0)) a0))) (aC (eN tupD (aC (eC (.int 2)) (aC (eC (.int 1)) a0))) (aC (eN tupD (aC (eC (.int 1)) (aC (eC (.int 1)) a0))) (aC (eN tupD (aC (eC (.int 2)) (aC (eC (.int 1)) a0))) (aC (eN tupD (aC (eC (.int 2)) (aC (eC (.int 2)) a0))) a0))))))))))))
  T__law_wish_case_5)
def T__law_wish_case_3 : Frm → Res Fl := (sSeq (sSet 3 (e2 addD (eVar 3) (eL (lN (aC (eL (lN (aC (eVar 5) (aC (eVar 6) (aC (eL (lN (aC (eC (.str "remove")) (aC (eC (.str "00")) (aC (e2 atD (eVar 1) (eC (.int 0))) a0))))) a0))))) (aC (eL (lN (aC (eVar 5) (aC (eVar 6) (aC (eL (lN (aC (eC (.str "remove")) (aC (eC (.str "0")) a0)))) a0))))) a0))))))
  T__law_wish_case_4)
def T__law_wish_case_2 : Frm → Res Fl := (sSeq (sSet 3 (e2 addD (eVar 3) (eL (lN (aC (eL (lN (aC (eVar 5) (aC (eVar 6) (aC (eVar 5) a0))))) (aC (eL (lN (aC (eVar 5) (aC (eVar 6) (aC (eL (lN (aC (eC (.str "add")) (aC (eC (.str "one")) (aC (e2 atD (eVar 1) (eC (.int 0))) a0))))) a0))))) (aC (eL (lN (aC (eVar 5) (aC (eL (lN (aC (eC (.str "may")) (aC (e2 atD (eVar 0) (eC (.int 0))) a0)))) a0)))) a0)))))))
  T__law_wish_case_3)
def T__law_wish_case_1 : Frm → Res Fl := (sSeq (sSet 3 (eL (lN (aC (eL (lN (aC (eL (lN (aC (eC (.str "may")) (aC (e2 atD (eVar 0) (eC (.int 1))) a0)))) a0))) (aC (eL (lN (aC (e2 addD (eVar 5) (eL (lN (aC (eC (.str "insert")) (aC (eC (.str "delete")) a0))))) a0))) (aC (eL (lN (aC (e2 addD (eVar 5) (eL (lN (aC (eC (.str "delete")) (aC (eC (.str "delete")) a0))))) a0))) (aC (eL (lN (aC (eL (lN (aC (eC (.str "add")) (aC (eC (.str "0")) (aC (e2 atD (eVar 1) (eC (.int 0))) a0))))) a0))) a0)))))))
  T__law_wish_case_2)
def F__law_wish_case : Frm → Res Fl := (sSeq (sPar 5 6 (aC (eL (lN (aC (eC (.str "may")) (aC (e2 atD (eVar 0) (eC (.int 0))) a0)))) (aC (eL (lN (aC (eC (.str "may")) (aC (e2 atD (eVar 0) (eC (.int 1))) (aC (eC (.str "delete")) a0))))) a0)))
  T__law_wish_case_1)
noncomputable def m__law_wish_case : List D → Res RV := hid (defM 3 7 F__law_wish_case)
theorem u__law_wish_case : m__law_wish_case = defM 3 7 F__law_wish_case := hid_eq _
theorem kn__law_wish_case (z_int : mg "int" = none) (d : Dfn K mg "_law_wish_case" s__law_wish_case ["names", "words", "case"]) : Known (TabList.mk CL P w) P w K mg base 1 "_law_wish_case" ["names", "words", "case"] m__law_wish_case := Known.cast u__law_wish_case (known_of (F := F__law_wish_case) (N := N__law_wish_case) d sc__law_wish_case fun f cdv A outer s H E hr => by
  have C : CtE (cxOf (L2N.CX P w) P w K mg base N__law_wish_case "_law_wish_case" (defScope s__law_wish_case) f cdv A outer s H E) := ⟨rfl, sc__law_wish_case.nd, room_ct hr⟩
  exact (dss_cons (ds_par 5 6 C (da_cons (dl_lst (da_cons de_str (da_cons (de_ix (de_var 0) de_int) da_nil))).de (da_cons (dl_lst (da_cons de_str (da_cons (de_ix (de_var 0) de_int) (da_cons de_str da_nil)))).de da_nil)) (by decide) rfl rfl rfl rfl (by rfl))
  (dss_cons (ds_set 3 (dl_lst (da_cons (dl_lst (da_cons (dl_lst (da_cons de_str (da_cons (de_ix (de_var 0) de_int) da_nil))).de da_nil)).de (da_cons (dl_lst (da_cons (de_bin od_add (de_var 5) (dl_lst (da_cons de_str (da_cons de_str da_nil))).de) da_nil)).de (da_cons (dl_lst (da_cons (de_bin od_add (de_var 5) (dl_lst (da_cons de_str (da_cons de_str da_nil))).de) da_nil)).de (da_cons (dl_lst (da_cons (dl_lst (da_cons de_str (da_cons de_str (da_cons (de_ix (de_var 1) de_int) da_nil)))).de da_nil)).de da_nil))))).de C)
  (dss_cons (ds_set 3 (de_bin od_add (de_var 3) (dl_lst (da_cons (dl_lst (da_cons (de_var 5) (da_cons (de_var 6) (da_cons (de_var 5) da_nil)))).de (da_cons (dl_lst (da_cons (de_var 5) (da_cons (de_var 6) (da_cons (dl_lst (da_cons de_str (da_cons de_str (da_cons (de_ix (de_var 1) de_int) da_nil)))).de da_nil)))).de (da_cons (dl_lst (da_cons (de_var 5) (da_cons (dl_lst (da_cons de_str (da_cons (de_ix (de_var 0) de_int) da_nil))).de da_nil))).de da_nil)))).de) C)
  (dss_cons (ds_set 3 (de_bin od_add (de_var 3) (dl_lst (da_cons (dl_lst (da_cons (de_var 5) (da_cons (de_var 6) (da_cons (dl_lst (da_cons de_str (da_cons de_str (da_cons (de_ix (de_var 1) de_int) da_nil)))).de da_nil)))).de (da_cons (dl_lst (da_cons (de_var 5) (da_cons (de_var 6) (da_cons (dl_lst (da_cons de_str (da_cons de_str da_nil))).de da_nil)))).de da_nil))).de) C)
  (dss_cons (ds_set 4 (dl_lst (da_cons (de_tup (da_cons de_int (da_cons de_int da_nil))) (da_cons (de_tup (da_cons de_int (da_cons de_int da_nil))) (da_cons (de_tup (da_cons de_int (da_cons de_int da_nil))) (da_cons (de_tup (da_cons de_int (da_cons de_int da_nil))) (da_cons (de_tup (da_cons de_int (da_cons de_int da_nil))) (da_cons (de_tup (da_cons de_int (da_cons de_int da_nil))) (da_cons (de_tup (da_cons de_int (da_cons de_int da_nil))) (da_cons (de_tup (da_cons de_int (da_cons de_int da_nil))) (da_cons (de_tup (da_cons de_int (da_cons de_int da_nil))) da_nil)))))))))).de C)
  (dss_one (ds_ret (de_tup (da_cons (de_ix (de_var 3) (de_bin od_mod (de_callTy cd_int2 (by rfl) z_int bt_int (da_cons (de_var 2) da_nil)) de_int)) (da_cons (de_ix (de_var 4) (de_bin od_mod (de_callTy cd_int2 (by rfl) z_int bt_int (da_cons (de_var 2) da_nil)) de_int)) da_nil)))))))))))
abbrev s__law_change_case : Stmt := topS 86
abbrev N__law_change_case : List Str := ["names", "words", "case", "cases", "places", "insert", "delete"]
theorem sc__law_change_case : FnScope N__law_change_case ["names", "words", "case"] (defScope s__law_change_case) := ⟨rfl, rfl, rfl, by decide +kernel, rfl, by decide +kernel, by decide +kernel⟩
theorem bo__law_change_case : BindOk "_law_change_case" s__law_change_case ["names", "words", "case"] := fun _ _ _ _ _ _ us hl => match us, hl with | [_, _, _], _ => rfl
def T__law_change_case_3 : Frm → Res Fl := (sRet (eN tupD (aC (e2 atD (eVar 3) (e2 modD (eN (oneD int2D) (aC (eVar 2) a0)) (eC (.int 4)))) (aC (e2 atD (eVar 4) (e2 modD (eN (oneD int2D) (aC (eVar 2) a0)) (eC (.int 4)))) a0))))
def T__law_change_case_2 : Frm → Res Fl := (sSeq (sSet 4 (eL (lN (aC (eN tupD (aC (eC (.int 1)) (aC (eC (.int 0)) a0))) (aC (eN tupD (aC (eC (.int 0)) (aC (eC (.int 0)) a0))) (aC (eN tupD (aC (eC (.int 2)) (aC (eC (.int 0)) a0))) (aC (eN tupD (aC (eC (.int 1)) (aC (eC (.int 0)) a0))) a0)))))))
  T__law_change_case_3)
def T__law_change_case_1 : Frm → Res Fl := (sSeq (sSet 3 (eL (lN (aC (eL (lN (aC (eVar 5) (aC (eVar 6) a0)))) (aC (eL (lN (aC (eL (lN (aC (eC (.str "remove")) (aC (e2 atD (eVar 0) (eC (.int 0))) (aC (e2 atD (eVar 1) (eC (.int 0))) a0))))) a0))) (aC (eL (lN (aC (eVar 6) (aC (eVar 5) (aC (eVar 6) a0))))) (aC (eL (lN (aC (e2 addD (eL (lN (aC (eC (.str "insert")) a0))) (eVar 6)) (aC (eL (lN (aC (eC (.str "?")) a0))) a0)))) a0)))))))
  T__law_change_case_2)
def F__law_change_case : Frm → Res Fl := (sSeq (sPar 5 6 (aC (eL (lN (aC (eC (.str "insert")) (aC (e2 atD (eVar 0) (eC (.int 0))) (aC (e2 atD (eVar 1) (eC (.int 0))) a0))))) (aC (eL (lN (aC (eC (.str "delete")) (aC (e2 atD (eVar 0) (eC (.int 0))) (aC (e2 atD (eVar 1) (eC (.int 0))) a0))))) a0)))
  T__law_change_case_1)
noncomputable def m__law_change_case : List D → Res RV := hid (defM 3 7 F__law_change_case)
theorem u__law_change_case : m__law_change_case = defM 3 7 F__law_change_case := hid_eq _
theorem kn__law_change_case (z_int : mg "int" = none) (d : Dfn K mg "_law_change_case" s__law_change_case ["names", "words", "case"]) : Known (TabList.mk CL P w) P w K mg base 1 "_law_change_case" ["names", "words", "case"] m__law_change_case := Known.cast u__law_change_case (known_of (F := F__law_change_case) (N := N__law_change_case) d sc__law_change_case fun f cdv A outer s H E hr => by
  have C : CtE (cxOf (L2N.CX P w) P w K mg base N__law_change_case "_law_change_case" (defScope s__law_change_case) f cdv A outer s H E) := ⟨rfl, sc__law_change_case.nd, room_ct hr⟩
  exact (dss_cons (ds_par 5 6 C (da_cons (dl_lst (da_cons de_str (da_cons (de_ix (de_var 0) de_int) (da_cons (de_ix (de_var 1) de_int) da_nil)))).de (da_cons (dl_lst (da_cons de_str (da_cons (de_ix (de_var 0) de_int) (da_cons (de_ix (de_var 1) de_int) da_nil)))).de da_nil)) (by decide) rfl rfl rfl rfl (by rfl))
  (dss_cons (ds_set 3 (dl_lst (da_cons (dl_lst (da_cons (de_var 5) (da_cons (de_var 6) da_nil))).de (da_cons (dl_lst (da_cons (dl_lst (da_cons de_str (da_cons (de_ix (de_var 0) de_int) (da_cons (de_ix (de_var 1) de_int) da_nil)))).de da_nil)).de (da_cons (dl_lst (da_cons (de_var 6) (da_cons (de_var 5) (da_cons (de_var 6) da_nil)))).de (da_cons (dl_lst (da_cons (de_bin od_add (dl_lst (da_cons de_str da_nil)).de (de_var 6)) (da_cons (dl_lst (da_cons de_str da_nil)).de da_nil))).de da_nil))))).de C)
  (dss_cons (ds_set 4 (dl_lst (da_cons (de_tup (da_cons de_int (da_cons de_int da_nil))) (da_cons (de_tup (da_cons de_int (da_cons de_int da_nil))) (da_cons (de_tup (da_cons de_int (da_cons de_int da_nil))) (da_cons (de_tup (da_cons de_int (da_cons de_int da_nil))) da_nil))))).de C)
  (dss_one (ds_ret (de_tup (da_cons (de_ix (de_var 3) (de_bin od_mod (de_callTy cd_int2 (by rfl) z_int bt_int (da_cons (de_var 2) da_nil)) de_int)) (da_cons (de_ix (de_var 4) (de_bin od_mod (de_callTy cd_int2 (by rfl) z_int bt_int (da_cons (de_var 2) da_nil)) de_int)) da_nil)))))))))
abbrev s__law_ahead : Stmt := topS 87
abbrev N__law_ahead : List Str := ["kind", "names", "words"]
theorem sc__law_ahead : FnScope N__law_ahead ["kind", "names", "words"] (defScope s__law_ahead) := ⟨rfl, rfl, rfl, by decide +kernel, rfl, by decide +kernel, by decide +kernel⟩
theorem bo__law_ahead : BindOk "_law_ahead" s__law_ahead ["kind", "names", "words"] := fun _ _ _ _ _ _ us hl => match us, hl with | [_, _, _], _ => rfl
def F__law_ahead : Frm → Res Fl := (sSeq (sIf (tE boolD (e2 eqD (eVar 0) (eC (.int 0)))) (sRetL (lN (aC (eC (.str "table")) (aC (e2 atD (eVar 1) (eC (.int 1))) (aC (eC (.str "9")) a0))))) sNext)
  (sSeq (sIf (tE boolD (e2 eqD (eVar 0) (eC (.int 1)))) (sRetL (lN (aC (eC (.str "view")) (aC (eC (.str "7")) a0)))) sNext)
  (sRetL (lN (aC (eC (.str "delete")) (aC (eC (.str "nosuchtable")) (aC (e2 atD (eVar 2) (eC (.int 1))) a0)))))))
noncomputable def m__law_ahead : List D → Res RV := hid (defM 3 3 F__law_ahead)
theorem u__law_ahead : m__law_ahead = defM 3 3 F__law_ahead := hid_eq _
theorem kn__law_ahead  (d : Dfn K mg "_law_ahead" s__law_ahead ["kind", "names", "words"]) : Known (TabList.mk CL P w) P w K mg base 1 "_law_ahead" ["kind", "names", "words"] m__law_ahead := Known.cast u__law_ahead (known_of (F := F__law_ahead) (N := N__law_ahead) d sc__law_ahead fun f cdv A outer s H E hr => by
  have C : CtE (cxOf (L2N.CX P w) P w K mg base N__law_ahead "_law_ahead" (defScope s__law_ahead) f cdv A outer s H E) := ⟨rfl, sc__law_ahead.nd, room_ct hr⟩
  exact (dss_cons (ds_if (dt_cmp (od_eq C) (de_var 0) de_int) (dss_one (ds_retL (dl_lst (da_cons de_str (da_cons (de_ix (de_var 1) de_int) (da_cons de_str da_nil)))))) dss_nil)
  (dss_cons (ds_if (dt_cmp (od_eq C) (de_var 0) de_int) (dss_one (ds_retL (dl_lst (da_cons de_str (da_cons de_str da_nil))))) dss_nil)
  (dss_one (ds_retL (dl_lst (da_cons de_str (da_cons de_str (da_cons (de_ix (de_var 2) de_int) da_nil)))))))))
abbrev s_read_number : Stmt := topS 62
abbrev N_read_number : List Str := ["word", "letter"]
theorem sc_read_number : FnScope N_read_number ["word"] (defScope s_read_number) := ⟨rfl, rfl, rfl, by decide +kernel, rfl, by decide +kernel, by decide +kernel⟩
theorem bo_read_number : BindOk "read_number" s_read_number ["word"] := fun _ _ _ _ _ _ us hl => match us, hl with | [_], _ => rfl
def F_read_number : Frm → Res Fl := (sSeq (sIf (tOrR (tNotR (tE boolD (eChain leD leD (eC (.int 1)) (eN (oneD lenD) (aC (eVar 0) a0)) (eC (.int 6))))) (tNotR (tE truD (eGx true [1] (Tg.nm 1) (iF walkD (eVar 0)) tYesR (e2 inD (eVar 1) (eC (.str "0123456789"))))))) (sRet (eC .none)) sNext)
  (sSeq (sIf (tAndR (tE boolD (e2 eqD (e2 atD (eVar 0) (eC (.int 0))) (eC (.str "0")))) (tE boolD (e2 neD (eVar 0) (eC (.str "0"))))) (sRet (eC .none)) sNext)
  (sRet (eN (oneD int2D) (aC (eVar 0) a0)))))
noncomputable def m_read_number : List D → Res RV := hid (defM 1 2 F_read_number)
theorem u_read_number : m_read_number = defM 1 2 F_read_number := hid_eq _
theorem kn_read_number {c Pt : Addr} (tb : GxR.TabB base mg c Pt) (hPT : Pt ∈ TabList.mk CL P w) (z_all : mg "all" = none) (z_int : mg "int" = none) (z_len : mg "len" = none) (g_DIGITS : ∃ t, mg "DIGITS" = some (.str "0123456789" t)) (g_MOST_DIGITS : ∃ t, mg "MOST_DIGITS" = some (.int 6 t)) (d : DfnC K mg "read_number" s_read_number ["word"] (.ref c)) : Known (TabList.mk CL P w) P w K mg base 2 "read_number" ["word"] m_read_number := Known.cast u_read_number (known_ofC (F := F_read_number) (N := N_read_number) d sc_read_number fun f A outer s H E hr => by
  have C : CtE (cxOf (L2N.CX P w) P w K mg base N_read_number "read_number" (defScope s_read_number) f (.ref c) A outer s H E) := ⟨rfl, sc_read_number.nd, room_ct hr⟩
  exact (dss_cons (ds_if (dw_or (dt_not (dt_chain od_le od_le de_int (de_callB cd_len (by rfl) z_len bt_len (da_cons (de_var 0) da_nil)) (de_gint g_MOST_DIGITS (by rfl)))) (dw_or1 (dt_not (dt_tru (de_gx_all (k := 0) C (hr.mono (by decide)) (by rfl) z_all tb hPT rfl (di_any (de_var 0)) (blkOk_by (N := N_read_number) (sc := defScope s_read_number) (own := [("letter", 1)]) (by decide +kernel)) (by decide) (by decide +kernel) rfl rfl (show (Str.ofString ".0") ∉ N_read_number by decide +kernel) (fun _ _ _ _ _ _ _ _ h1 => (pg_name (i := 1) (C.gx h1).nd rfl (by first | exact Or.inl rfl | exact Or.inr rfl))) (fun _ _ _ _ _ _ _ _ h1 => dts_nil) (fun _ _ _ _ _ _ _ _ h1 => (de_cmp (od_in (C.gx h1)) (de_var 1) (de_gstr g_DIGITS (by rfl))))))))).dt (dss_one (ds_ret de_non)) dss_nil)
  (dss_cons (ds_if (dw_and (dt_cmp (od_eq C) (de_ix (de_var 0) de_int) de_str) (dw_and1 (dt_cmp (od_ne C) (de_var 0) de_str))).dt (dss_one (ds_ret de_non)) dss_nil)
  (dss_one (ds_ret (de_callTy cd_int2 (by rfl) z_int bt_int (da_cons (de_var 0) da_nil)))))))
abbrev s__table_of : Stmt := topS 73
abbrev N__table_of : List Str := ["words", "key"]
theorem sc__table_of : FnScope N__table_of ["words"] (defScope s__table_of) := ⟨rfl, rfl, rfl, by decide +kernel, rfl, by decide +kernel, by decide +kernel⟩
theorem bo__table_of : BindOk "_table_of" s__table_of ["words"] := fun _ _ _ _ _ _ us hl => match us, hl with | [_], _ => rfl
def F__table_of : Frm → Res Fl := (sSeq (sSet 1 (eIf (tE boolD (e2 eqD (eN (oneD lenD) (aC (eVar 0) a0)) (eC (.int 5)))) (eCall m_read_number (aC (e2 atD (eVar 0) (eC (.int 4))) a0)) (eC .none)))
  (sRet (eN tupD (aC (e2 atD (eVar 0) (eC (.int 1))) (aC (eCall m_read_number (aC (e2 atD (eVar 0) (eC (.int 2))) a0)) (aC (eVar 1) a0))))))
noncomputable def m__table_of : List D → Res RV := hid (defM 1 2 F__table_of)
theorem u__table_of : m__table_of = defM 1 2 F__table_of := hid_eq _
theorem kn__table_of (z_len : mg "len" = none) (kn_read_number : Known (TabList.mk CL P w) P w K mg base 2 "read_number" ["word"] m_read_number) (d : Dfn K mg "_table_of" s__table_of ["words"]) : Known (TabList.mk CL P w) P w K mg base 3 "_table_of" ["words"] m__table_of := Known.cast u__table_of (known_of (F := F__table_of) (N := N__table_of) d sc__table_of fun f cdv A outer s H E hr => by
  have C : CtE (cxOf (L2N.CX P w) P w K mg base N__table_of "_table_of" (defScope s__table_of) f cdv A outer s H E) := ⟨rfl, sc__table_of.nd, room_ct hr⟩
  exact (dss_cons (ds_set 1 (de_if (dt_cmp (od_eq C) (de_callB cd_len (by rfl) z_len bt_len (da_cons (de_var 0) da_nil)) de_int) (de_call kn_read_number hr (by decide) (by rfl) (da_cons (de_ix (de_var 0) de_int) da_nil)) de_non) C)
  (dss_one (ds_ret (de_tup (da_cons (de_ix (de_var 0) de_int) (da_cons (de_call kn_read_number hr (by decide) (by rfl) (da_cons (de_ix (de_var 0) de_int) da_nil)) (da_cons (de_var 1) da_nil))))))))
abbrev s_lines_of : Stmt := topS 60
abbrev N_lines_of : List Str := ["text", "lines", "line"]
theorem sc_lines_of : GScope N_lines_of ["text"] (defScope s_lines_of) := ⟨rfl, rfl, rfl, by decide +kernel, rfl, by decide +kernel, by decide +kernel⟩
theorem bo_lines_of : BindOk "lines_of" s_lines_of ["text"] := fun _ _ _ _ _ _ us hl => match us, hl with | [_], _ => rfl
def F_lines_of : Frm → Res (List D) := (gSeq (sSet 1 (eL (lSplit (eVar 0) (eC (.str "\n")))))
  (gSeq (sIf (tE boolD (e2 eqD (e2 atD (eVar 1) (e1 negD (eC (.int 1)))) (eC (.str "")))) (sSet 1 (eSlice (eVar 1) oNone (oSome (e1 negD (eC (.int 1)))))) sNext)
  (gFor 2 (iF walkD (eVar 1)))))
noncomputable def m_lines_of : List D → Res (List D) := hid (defG 3 F_lines_of)
theorem u_lines_of : m_lines_of = defG 3 F_lines_of := hid_eq _
theorem kn_lines_of  (d : Dfn K mg "lines_of" s_lines_of ["text"]) : KnownG (TabList.mk CL P w) P w K mg base 1 "lines_of" ["text"] m_lines_of := KnownG.cast u_lines_of (knownG_of (F := F_lines_of) (N := N_lines_of) d sc_lines_of fun f cdv A outer s H E pn hr => by
  have C : CtE (gcxOf P w K mg base N_lines_of "lines_of" (defScope s_lines_of) f cdv A outer s H E pn) := ⟨rfl, sc_lines_of.nd, room_ct hr⟩
  exact (dg_cons (ds_set 1 (dl_split (de_var 0) de_str).de C)
  (dg_cons (ds_if (dt_cmp (od_eq C) (de_ix (de_var 1) (de_neg de_int)) de_str) (dss_one (ds_set 1 (de_slice (de_var 1) do_none (do_some (de_neg de_int))) C)) dss_nil)
  (dg_for (i := 2) C (passes_of rfl) (di_any (de_var 1))))))
abbrev s_words_of : Stmt := topS 61
abbrev N_words_of : List Str := ["line", "found", "column", "word"]
theorem sc_words_of : FnScope N_words_of ["line"] (defScope s_words_of) := ⟨rfl, rfl, rfl, by decide +kernel, rfl, by decide +kernel, by decide +kernel⟩
theorem bo_words_of : BindOk "words_of" s_words_of ["line"] := fun _ _ _ _ _ _ us hl => match us, hl with | [_], _ => rfl
def B_words_of_0 : Frm → Res Fl := (sSeq (sApp 1 (eN tupD (aC (eVar 2) (aC (eVar 3) a0))))
  (sSeq (sAug 2 (e2 addD (eN (oneD lenD) (aC (eVar 3) a0)) (eC (.int 1))))
  (sKill [3] sNext)))
def T_words_of_3 : Frm → Res Fl := (sKill [2, 3] (sRetO 1))
def T_words_of_2 : Frm → Res Fl := (sKill [3] (sSeq (sFor (Tg.nm 3) (iF walkD (eL (lSplit (eVar 0) (eC (.str " "))))) B_words_of_0)
  T_words_of_3))
def T_words_of_1 : Frm → Res Fl := (sSeq (sSet 2 (eC (.int 1)))
  T_words_of_2)
def F_words_of : Frm → Res Fl := (sSeq (sSetL 1 (lN a0))
  T_words_of_1)
noncomputable def m_words_of : List D → Res RV := hid (defM 1 4 F_words_of)
theorem u_words_of : m_words_of = defM 1 4 F_words_of := hid_eq _
theorem kn_words_of (z_len : mg "len" = none) (d : Dfn K mg "words_of" s_words_of ["line"]) : Known (TabList.mk CL P w) P w K mg base 1 "words_of" ["line"] m_words_of := Known.cast u_words_of (known_of (F := F_words_of) (N := N_words_of) d sc_words_of fun f cdv A outer s H E hr => by
  have C : CtE (cxOf (L2N.CX P w) P w K mg base N_words_of "words_of" (defScope s_words_of) f cdv A outer s H E) := ⟨rfl, sc_words_of.nd, room_ct hr⟩
  exact (dss_cons (ds_setL 1 (dl_lst da_nil) C)
  (dss_cons (ds_set 2 de_int C)
  (dss_kill [3] (dss_cons (ds_for C (passes_of rfl) (di_any (dl_split (de_var 0) de_str).de) (pg_name (i := 3) C.nd rfl (by first | exact Or.inl rfl | exact Or.inr rfl)) (dss_cons (ds_app 1 (de_tup (da_cons (de_var 2) (da_cons (de_var 3) da_nil))))
  (dss_cons (ds_aug 2 (de_bin od_add (de_callB cd_len (by rfl) z_len bt_len (da_cons (de_var 3) da_nil)) de_int) C)
  (dss_kill [3] dss_nil))))
  (dss_kill [2, 3] (dss_one (ds_retO 1))))))))
abbrev s_is_word : Stmt := topS 24
abbrev N_is_word : List Str := ["value", "letter"]
theorem sc_is_word : FnScope N_is_word ["value"] (defScope s_is_word) := ⟨rfl, rfl, rfl, by decide +kernel, rfl, by decide +kernel, by decide +kernel⟩
theorem bo_is_word : BindOk "is_word" s_is_word ["value"] := fun _ _ _ _ _ _ us hl => match us, hl with | [_], _ => rfl
def F_is_word : Frm → Res Fl := (sSeq (sIf (tOrR (tNotR (tE truD (e1 (isiD "str") (eVar 0)))) (tNotR (tE boolD (eChain leD leD (eC (.int 1)) (eN (oneD lenD) (aC (eVar 0) a0)) (eC (.int 12)))))) (sRet (eC (.bool false))) sNext)
  (sRet (eGx true [1] (Tg.nm 1) (iF walkD (eVar 0)) tYesR (e2 inD (eVar 1) (eC (.str "abcdefghijklmnopqrstuvwxyz0123456789"))))))
noncomputable def m_is_word : List D → Res RV := hid (defM 1 2 F_is_word)
theorem u_is_word : m_is_word = defM 1 2 F_is_word := hid_eq _
theorem kn_is_word {c Pt : Addr} (tb : GxR.TabB base mg c Pt) (hPT : Pt ∈ TabList.mk CL P w) (z_all : mg "all" = none) (z_isinstance : mg "isinstance" = none) (z_len : mg "len" = none) (z_str : mg "str" = none) (g_LETTERS : ∃ t, mg "LETTERS" = some (.str "abcdefghijklmnopqrstuvwxyz0123456789" t)) (g_MOST_LETTERS : ∃ t, mg "MOST_LETTERS" = some (.int 12 t)) (d : DfnC K mg "is_word" s_is_word ["value"] (.ref c)) : Known (TabList.mk CL P w) P w K mg base 2 "is_word" ["value"] m_is_word := Known.cast u_is_word (known_ofC (F := F_is_word) (N := N_is_word) d sc_is_word fun f A outer s H E hr => by
  have C : CtE (cxOf (L2N.CX P w) P w K mg base N_is_word "is_word" (defScope s_is_word) f (.ref c) A outer s H E) := ⟨rfl, sc_is_word.nd, room_ct hr⟩
  exact (dss_cons (ds_if (dw_or (dt_not (dt_tru (de_isi kit_str (by rfl) z_isinstance (by rfl) z_str bt_str (de_var 0)))) (dw_or1 (dt_not (dt_chain od_le od_le de_int (de_callB cd_len (by rfl) z_len bt_len (da_cons (de_var 0) da_nil)) (de_gint g_MOST_LETTERS (by rfl)))))).dt (dss_one (ds_ret de_bl)) dss_nil)
  (dss_one (ds_ret (de_gx_all (k := 0) C (hr.mono (by decide)) (by rfl) z_all tb hPT rfl (di_any (de_var 0)) (blkOk_by (N := N_is_word) (sc := defScope s_is_word) (own := [("letter", 1)]) (by decide +kernel)) (by decide) (by decide +kernel) rfl rfl (show (Str.ofString ".0") ∉ N_is_word by decide +kernel) (fun _ _ _ _ _ _ _ _ h1 => (pg_name (i := 1) (C.gx h1).nd rfl (by first | exact Or.inl rfl | exact Or.inr rfl))) (fun _ _ _ _ _ _ _ _ h1 => dts_nil) (fun _ _ _ _ _ _ _ _ h1 => (de_cmp (od_in (C.gx h1)) (de_var 1) (de_gstr g_LETTERS (by rfl)))))))))
abbrev s_read_term : Stmt := topS 63
abbrev N_read_term : List Str := ["word"]
theorem sc_read_term : FnScope N_read_term ["word"] (defScope s_read_term) := ⟨rfl, rfl, rfl, by decide +kernel, rfl, by decide +kernel, by decide +kernel⟩
theorem bo_read_term : BindOk "read_term" s_read_term ["word"] := fun _ _ _ _ _ _ us hl => match us, hl with | [_], _ => rfl
def F_read_term : Frm → Res Fl := (sSeq (sIf (tAndR (tE boolD (e2 eqD (eN (oneD lenD) (aC (eVar 0) a0)) (eC (.int 2)))) (tAndR (tE boolD (e2 eqD (e2 atD (eVar 0) (eC (.int 0))) (eC (.str "?")))) (tE boolD (e2 inD (e2 atD (eVar 0) (eC (.int 1))) (eC (.str "01234567")))))) (sRet (eN tupD (aC (eC (.str "var")) (aC (eN (oneD int2D) (aC (e2 atD (eVar 0) (eC (.int 1))) a0)) a0)))) sNext)
  (sRet (eIf (tE truD (eCall m_is_word (aC (eVar 0) a0))) (eN tupD (aC (eC (.str "word")) (aC (eVar 0) a0))) (eC .none))))
noncomputable def m_read_term : List D → Res RV := hid (defM 1 1 F_read_term)
theorem u_read_term : m_read_term = defM 1 1 F_read_term := hid_eq _
theorem kn_read_term (z_int : mg "int" = none) (z_len : mg "len" = none) (g_VARIABLES : ∃ t, mg "VARIABLES" = some (.str "01234567" t)) (kn_is_word : Known (TabList.mk CL P w) P w K mg base 2 "is_word" ["value"] m_is_word) (d : Dfn K mg "read_term" s_read_term ["word"]) : Known (TabList.mk CL P w) P w K mg base 3 "read_term" ["word"] m_read_term := Known.cast u_read_term (known_of (F := F_read_term) (N := N_read_term) d sc_read_term fun f cdv A outer s H E hr => by
  have C : CtE (cxOf (L2N.CX P w) P w K mg base N_read_term "read_term" (defScope s_read_term) f cdv A outer s H E) := ⟨rfl, sc_read_term.nd, room_ct hr⟩
  exact (dss_cons (ds_if (dw_and (dt_cmp (od_eq C) (de_callB cd_len (by rfl) z_len bt_len (da_cons (de_var 0) da_nil)) de_int) (dw_and (dt_cmp (od_eq C) (de_ix (de_var 0) de_int) de_str) (dw_and1 (dt_cmp (od_in C) (de_ix (de_var 0) de_int) (de_gstr g_VARIABLES (by rfl)))))).dt (dss_one (ds_ret (de_tup (da_cons de_str (da_cons (de_callTy cd_int2 (by rfl) z_int bt_int (da_cons (de_ix (de_var 0) de_int) da_nil)) da_nil))))) dss_nil)
  (dss_one (ds_ret (de_if (dt_tru (de_call kn_is_word hr (by decide) (by rfl) (da_cons (de_var 0) da_nil))) (de_tup (da_cons de_str (da_cons (de_var 0) da_nil))) de_non)))))
abbrev s__is_of_kind : Stmt := topS 71
abbrev N__is_of_kind : List Str := ["word", "kind"]
theorem sc__is_of_kind : FnScope N__is_of_kind ["word", "kind"] (defScope s__is_of_kind) := ⟨rfl, rfl, rfl, by decide +kernel, rfl, by decide +kernel, by decide +kernel⟩
theorem bo__is_of_kind : BindOk "_is_of_kind" s__is_of_kind ["word", "kind"] := fun _ _ _ _ _ _ us hl => match us, hl with | [_, _], _ => rfl
def T__is_of_kind_3 : Frm → Res Fl := (sRet (e2 eqD (eVar 0) (eVar 1)))
def T__is_of_kind_2 : Frm → Res Fl := (sSeq (sIf (tE boolD (e2 eqD (eVar 1) (eC (.str "TERM")))) (sRet (e2 notBD (eCall m_read_term (aC (eVar 0) a0)) (eC .none))) sNext)
  T__is_of_kind_3)
def T__is_of_kind_1 : Frm → Res Fl := (sSeq (sIf (tE boolD (e2 eqD (eVar 1) (eC (.str "NUMBER")))) (sRet (e2 notBD (eCall m_read_number (aC (eVar 0) a0)) (eC .none))) sNext)
  T__is_of_kind_2)
def F__is_of_kind : Frm → Res Fl := (sSeq (sIf (tE boolD (e2 eqD (eVar 1) (eC (.str "NAME")))) (sRet (eCall m_is_word (aC (eVar 0) a0))) sNext)
  T__is_of_kind_1)
noncomputable def m__is_of_kind : List D → Res RV := hid (defM 2 2 F__is_of_kind)
theorem u__is_of_kind : m__is_of_kind = defM 2 2 F__is_of_kind := hid_eq _
theorem kn__is_of_kind (kn_is_word : Known (TabList.mk CL P w) P w K mg base 2 "is_word" ["value"] m_is_word) (kn_read_number : Known (TabList.mk CL P w) P w K mg base 2 "read_number" ["word"] m_read_number) (kn_read_term : Known (TabList.mk CL P w) P w K mg base 3 "read_term" ["word"] m_read_term) (d : Dfn K mg "_is_of_kind" s__is_of_kind ["word", "kind"]) : Known (TabList.mk CL P w) P w K mg base 4 "_is_of_kind" ["word", "kind"] m__is_of_kind := Known.cast u__is_of_kind (known_of (F := F__is_of_kind) (N := N__is_of_kind) d sc__is_of_kind fun f cdv A outer s H E hr => by
  have C : CtE (cxOf (L2N.CX P w) P w K mg base N__is_of_kind "_is_of_kind" (defScope s__is_of_kind) f cdv A outer s H E) := ⟨rfl, sc__is_of_kind.nd, room_ct hr⟩
  exact (dss_cons (ds_if (dt_cmp (od_eq C) (de_var 1) de_str) (dss_one (ds_ret (de_call kn_is_word hr (by decide) (by rfl) (da_cons (de_var 0) da_nil)))) dss_nil)
  (dss_cons (ds_if (dt_cmp (od_eq C) (de_var 1) de_str) (dss_one (ds_ret (de_cmp od_notB (de_call kn_read_number hr (by decide) (by rfl) (da_cons (de_var 0) da_nil)) de_non))) dss_nil)
  (dss_cons (ds_if (dt_cmp (od_eq C) (de_var 1) de_str) (dss_one (ds_ret (de_cmp od_notB (de_call kn_read_term hr (by decide) (by rfl) (da_cons (de_var 0) da_nil)) de_non))) dss_nil)
  (dss_one (ds_ret (de_cmp (od_eq C) (de_var 0) (de_var 1))))))))
abbrev s__state_behind : Stmt := topS 70
abbrev N__state_behind : List Str := ["choices", "word", "kind", "state"]
theorem sc__state_behind : FnScope N__state_behind ["choices", "word"] (defScope s__state_behind) := ⟨rfl, rfl, rfl, by decide +kernel, rfl, by decide +kernel, by decide +kernel⟩
theorem bo__state_behind : BindOk "_state_behind" s__state_behind ["choices", "word"] := fun _ _ _ _ _ _ us hl => match us, hl with | [_, _], _ => rfl
def B__state_behind_0 : Frm → Res Fl := (sSeq (sIf (tE truD (eCall m__is_of_kind (aC (eVar 1) (aC (eVar 2) a0)))) (sRet (eVar 3)) sNext)
  (sKill [2, 3] sNext))
def F__state_behind : Frm → Res Fl := (sKill [2, 3] (sSeq (sFor (Tg.tp [2, 3]) (iF walkD (eVar 0)) B__state_behind_0)
  (sKill [2, 3] (sRet (eC .none)))))
noncomputable def m__state_behind : List D → Res RV := hid (defM 2 4 F__state_behind)
theorem u__state_behind : m__state_behind = defM 2 4 F__state_behind := hid_eq _
theorem kn__state_behind (kn__is_of_kind : Known (TabList.mk CL P w) P w K mg base 4 "_is_of_kind" ["word", "kind"] m__is_of_kind) (d : Dfn K mg "_state_behind" s__state_behind ["choices", "word"]) : Known (TabList.mk CL P w) P w K mg base 5 "_state_behind" ["choices", "word"] m__state_behind := Known.cast u__state_behind (known_of (F := F__state_behind) (N := N__state_behind) d sc__state_behind fun f cdv A outer s H E hr => by
  have C : CtE (cxOf (L2N.CX P w) P w K mg base N__state_behind "_state_behind" (defScope s__state_behind) f cdv A outer s H E) := ⟨rfl, sc__state_behind.nd, room_ct hr⟩
  exact (dss_kill [2, 3] (dss_cons (ds_for C (passes_of rfl) (di_any (de_var 0)) (pg_tup C.calm (pgs_cons (pg_name (i := 2) C.nd rfl (by first | exact Or.inl rfl | exact Or.inr rfl)) (pgs_cons (pg_name (i := 3) C.nd rfl (by first | exact Or.inl rfl | exact Or.inr rfl)) pgs_nil))) (dss_cons (ds_if (dt_tru (de_call kn__is_of_kind hr (by decide) (by rfl) (da_cons (de_var 1) (da_cons (de_var 2) da_nil)))) (dss_one (ds_ret (de_var 3))) dss_nil)
  (dss_kill [2, 3] dss_nil)))
  (dss_kill [2, 3] (dss_one (ds_ret de_non))))))
abbrev s__read_lines : Stmt := topS 69
abbrev N__read_lines : List Str := ["text", "steps", "lines", "state", "count", "line", "unended", "column", "word"]
theorem sc__read_lines : FnScope N__read_lines ["text", "steps"] (defScope s__read_lines) := ⟨rfl, rfl, rfl, by decide +kernel, rfl, by decide +kernel, by decide +kernel⟩
theorem bo__read_lines : BindOk "_read_lines" s__read_lines ["text", "steps"] := fun _ _ _ _ _ _ us hl => match us, hl with | [_, _], _ => rfl
def B__read_lines_1 : Frm → Res Fl := (sSeq (sSet 3 (eCall m__state_behind (aC (e2 dAtD (eVar 1) (eVar 3)) (aC (eVar 8) a0))))
  (sSeq (sIf (tE boolD (e2 isBD (eVar 3) (eC .none))) (sRaiseF "BadText" ["line", "column"] (aC (e2 addD (eVar 4) (eC (.int 1))) (aC (eVar 7) a0))) sNext)
  (sKill [7, 8] sNext)))
def B__read_lines_0 : Frm → Res Fl := (sSeq (sFor (Tg.tp [7, 8]) (iF walkD (eCall m_words_of (aC (eVar 5) a0))) B__read_lines_1)
  (sKill [7, 8] (sSeq (sSet 3 (eCall m__state_behind (aC (e2 dAtD (eVar 1) (eVar 3)) (aC (eC (.str "\n")) a0))))
  (sSeq (sSet 6 (eAnd (e2 eqD (e2 addD (eVar 4) (eC (.int 1))) (eN (oneD lenD) (aC (eVar 2) a0))) (eNot (eEnds (eVar 0) (eC (.str "\n"))))))
  (sSeq (sIf (tOrR (tE boolD (e2 isBD (eVar 3) (eC .none))) (tE truD (eVar 6))) (sRaiseF "BadText" ["line", "column"] (aC (e2 addD (eVar 4) (eC (.int 1))) (aC (e2 addD (eN (oneD lenD) (aC (eVar 5) a0)) (eC (.int 1))) a0))) sNext)
  (sKill [4, 5, 6, 7, 8] sNext))))))
def T__read_lines_3 : Frm → Res Fl := (sKill [3, 4, 5, 6, 7, 8] (sRetL (lComp [5] (Tg.nm 5) (iF walkD (eVar 2)) tYesR (eL (lSplit (eVar 5) (eC (.str " ")))))))
def T__read_lines_2 : Frm → Res Fl := (sKill [4, 5, 6, 7, 8] (sSeq (sFor (Tg.tp [4, 5]) (iF enumD (eVar 2)) B__read_lines_0)
  T__read_lines_3))
def T__read_lines_1 : Frm → Res Fl := (sSeq (sSet 3 (eC (.str "line")))
  T__read_lines_2)
def F__read_lines : Frm → Res Fl := (sSeq (sSet 2 (eL (lGen 1 m_lines_of (aC (eVar 0) a0))))
  T__read_lines_1)
noncomputable def m__read_lines : List D → Res RV := hid (defM 2 9 F__read_lines)
theorem u__read_lines : m__read_lines = defM 2 9 F__read_lines := hid_eq _
theorem kn__read_lines (z_enumerate : mg "enumerate" = none) (z_len : mg "len" = none) (z_list : mg "list" = none) (kn__state_behind : Known (TabList.mk CL P w) P w K mg base 5 "_state_behind" ["choices", "word"] m__state_behind) (kn_lines_of : KnownG (TabList.mk CL P w) P w K mg base 1 "lines_of" ["text"] m_lines_of) (kn_words_of : Known (TabList.mk CL P w) P w K mg base 1 "words_of" ["line"] m_words_of) (kf_BadText : KnownX P w K mg base "BadText" ["line", "column"]) (d : Dfn K mg "_read_lines" s__read_lines ["text", "steps"]) : Known (TabList.mk CL P w) P w K mg base 6 "_read_lines" ["text", "steps"] m__read_lines := Known.cast u__read_lines (known_of (F := F__read_lines) (N := N__read_lines) d sc__read_lines fun f cdv A outer s H E hr => by
  have C : CtE (cxOf (L2N.CX P w) P w K mg base N__read_lines "_read_lines" (defScope s__read_lines) f cdv A outer s H E) := ⟨rfl, sc__read_lines.nd, room_ct hr⟩
  exact (dss_cons (ds_set 2 (DL.de (dl_gen C kn_lines_of hr (by decide) (by rfl) (da_cons (de_var 0) da_nil) (by rfl) z_list bt_list)) C)
  (dss_cons (ds_set 3 de_str C)
  (dss_kill [4, 5, 6, 7, 8] (dss_cons (ds_for C (passes_of rfl) (di_enum (by rfl) z_enumerate (de_var 2)) (pg_tup C.calm (pgs_cons (pg_name (i := 4) C.nd rfl (by first | exact Or.inl rfl | exact Or.inr rfl)) (pgs_cons (pg_name (i := 5) C.nd rfl (by first | exact Or.inl rfl | exact Or.inr rfl)) pgs_nil))) (dss_cons (ds_for C (passes_of rfl) (di_any (de_call kn_words_of hr (by decide) (by rfl) (da_cons (de_var 5) da_nil))) (pg_tup C.calm (pgs_cons (pg_name (i := 7) C.nd rfl (by first | exact Or.inl rfl | exact Or.inr rfl)) (pgs_cons (pg_name (i := 8) C.nd rfl (by first | exact Or.inl rfl | exact Or.inr rfl)) pgs_nil))) (dss_cons (ds_set 3 (de_call kn__state_behind hr (by decide) (by rfl) (da_cons (de_dAt C (de_var 1) (de_var 3)) (da_cons (de_var 8) da_nil))) C)
  (dss_cons (ds_if (dt_cmp od_isB (de_var 3) de_non) (dss_one (ds_raiseF C kf_BadText (hr.mono (by decide)) (by rfl) (da_cons (de_bin od_add (de_var 4) de_int) (da_cons (de_var 7) da_nil)))) dss_nil)
  (dss_kill [7, 8] dss_nil))))
  (dss_kill [7, 8] (dss_cons (ds_set 3 (de_call kn__state_behind hr (by decide) (by rfl) (da_cons (de_dAt C (de_var 1) (de_var 3)) (da_cons de_str da_nil))) C)
  (dss_cons (ds_set 6 (de_and (de_cmp (od_eq C) (de_bin od_add (de_var 4) de_int) (de_callB cd_len (by rfl) z_len bt_len (da_cons (de_var 2) da_nil))) (de_one (de_not (de_ends (de_var 0) de_str)))) C)
  (dss_cons (ds_if (dw_or (dt_cmp od_isB (de_var 3) de_non) (dw_or1 (dt_tru (de_var 6)))).dt (dss_one (ds_raiseF C kf_BadText (hr.mono (by decide)) (by rfl) (da_cons (de_bin od_add (de_var 4) de_int) (da_cons (de_bin od_add (de_callB cd_len (by rfl) z_len bt_len (da_cons (de_var 5) da_nil)) de_int) da_nil)))) dss_nil)
  (dss_kill [4, 5, 6, 7, 8] dss_nil)))))))
  (dss_kill [3, 4, 5, 6, 7, 8] (dss_one (ds_retL (dl_comp C (di_any (de_var 2)) (blkOk_by (N := N__read_lines) (sc := defScope s__read_lines) (own := [("line", 5)]) (by decide +kernel)) (by decide) (fun _ _ _ _ _ => (pg_name (i := 5) C.blk.nd rfl (by first | exact Or.inl rfl | exact Or.inr rfl))) (fun _ _ _ _ _ => dts_nil) (fun _ _ _ _ _ => (dl_split (de_var 5) de_str).de))))))))))
abbrev s_read_schema : Stmt := topS 64
abbrev N_read_schema : List Str := ["text", "schema", "words"]
theorem sc_read_schema : FnScope N_read_schema ["text"] (defScope s_read_schema) := ⟨rfl, rfl, rfl, by decide +kernel, rfl, by decide +kernel, by decide +kernel⟩
theorem bo_read_schema : BindOk "read_schema" s_read_schema ["text"] := fun _ _ _ _ _ _ us hl => match us, hl with | [_], _ => rfl
def F_read_schema : Frm → Res Fl := (sSeq (sSetL 1 (lComp [2] (Tg.nm 2) (iF walkD (eCall m__read_lines (aC (eVar 0) (aC (eDcD (lGDict [(("line" : Str), (.tuple [.tuple [.str "table", .str "name"]] : D)), (("name" : Str), (.tuple [.tuple [.str "NAME", .str "width"]] : D)), (("width" : Str), (.tuple [.tuple [.str "NUMBER", .str "behind width"]] : D)), (("behind width" : Str), (.tuple [.tuple [.str "key", .str "key"], .tuple [.str "\n", .str "line"]] : D)), (("key" : Str), (.tuple [.tuple [.str "NUMBER", .str "behind key"]] : D)), (("behind key" : Str), (.tuple [.tuple [.str "\n", .str "line"]] : D))])) a0)))) tYesR (eCall m__table_of (aC (eVar 2) a0))))
  (sSeq sBad
  (sRetO 1)))
noncomputable def m_read_schema : List D → Res RV := hid (defM 1 3 F_read_schema)
theorem u_read_schema : m_read_schema = defM 1 3 F_read_schema := hid_eq _
theorem kn_read_schema (z_dict : mg "dict" = none) (g_SCHEMA_STEPS : GDic K w mg "SCHEMA_STEPS" [(("line" : Str), (.tuple [.tuple [.str "table", .str "name"]] : D)), (("name" : Str), (.tuple [.tuple [.str "NAME", .str "width"]] : D)), (("width" : Str), (.tuple [.tuple [.str "NUMBER", .str "behind width"]] : D)), (("behind width" : Str), (.tuple [.tuple [.str "key", .str "key"], .tuple [.str "\n", .str "line"]] : D)), (("key" : Str), (.tuple [.tuple [.str "NUMBER", .str "behind key"]] : D)), (("behind key" : Str), (.tuple [.tuple [.str "\n", .str "line"]] : D))]) (kn__read_lines : Known (TabList.mk CL P w) P w K mg base 6 "_read_lines" ["text", "steps"] m__read_lines) (kn__table_of : Known (TabList.mk CL P w) P w K mg base 3 "_table_of" ["words"] m__table_of) (d : Dfn K mg "read_schema" s_read_schema ["text"]) : Known (TabList.mk CL P w) P w K mg base 7 "read_schema" ["text"] m_read_schema := Known.cast u_read_schema (known_of (F := F_read_schema) (N := N_read_schema) d sc_read_schema fun f cdv A outer s H E hr => by
  have C : CtE (cxOf (L2N.CX P w) P w K mg base N_read_schema "read_schema" (defScope s_read_schema) f cdv A outer s H E) := ⟨rfl, sc_read_schema.nd, room_ct hr⟩
  exact (dss_cons (ds_setLc 1 C (di_any (de_call kn__read_lines hr (by decide) (by rfl) (da_cons (de_var 0) (da_cons (dd_gdict C g_SCHEMA_STEPS (by rfl) (by rfl) z_dict).de da_nil)))) (blkOk_by (N := N_read_schema) (sc := defScope s_read_schema) (own := [("words", 2)]) (by decide +kernel)) (by decide) (fun _ _ _ _ _ => (pg_name (i := 2) C.blk.nd rfl (by first | exact Or.inl rfl | exact Or.inr rfl))) (fun _ _ _ _ _ => dts_nil) (fun _ _ _ _ _ => (de_call kn__table_of hr (by decide) (by rfl) (da_cons (de_var 2) da_nil))) (sw_true rfl rfl rfl rfl))
  (dss_cons ds_bad
  (dss_one (ds_retO 1)))))
abbrev s_read_views : Stmt := topS 66
abbrev N_read_views : List Str := ["schema", "text", "views", "words"]
theorem sc_read_views : FnScope N_read_views ["schema", "text"] (defScope s_read_views) := ⟨rfl, rfl, rfl, by decide +kernel, rfl, by decide +kernel, by decide +kernel⟩
theorem bo_read_views : BindOk "read_views" s_read_views ["schema", "text"] := fun _ _ _ _ _ _ us hl => match us, hl with | [_, _], _ => rfl
def B_read_views_0 : Frm → Res Fl := (sSeq sBad
  (sKill [3] sNext))
def T_read_views_3 : Frm → Res Fl := (sRetO 2)
def T_read_views_2 : Frm → Res Fl := (sKill [3] (sSeq sBad
  T_read_views_3))
def T_read_views_1 : Frm → Res Fl := (sKill [3] (sSeq (sForX (Tg.nm 3) (iF walkD (eCall m__read_lines (aC (eVar 1) (aC (eDcD (lGDict [(("line" : Str), (.tuple [.tuple [.str "view", .str "width"]] : D)), (("later line" : Str), (.tuple [.tuple [.str "view", .str "width"], .tuple [.str "rule", .str "first of head"]] : D)), (("width" : Str), (.tuple [.tuple [.str "NUMBER", .str "behind width"]] : D)), (("behind width" : Str), (.tuple [.tuple [.str "\n", .str "later line"]] : D)), (("first of head" : Str), (.tuple [.tuple [.str "TERM", .str "more of head"]] : D)), (("more of head" : Str), (.tuple [.tuple [.str "TERM", .str "more of head"], .tuple [.str "<-", .str "atom"]] : D)), (("atom" : Str), (.tuple [.tuple [.str "NAME", .str "first of atom"]] : D)), (("first of atom" : Str), (.tuple [.tuple [.str "TERM", .str "more of atom"]] : D)), (("more of atom" : Str), (.tuple [.tuple [.str "TERM", .str "more of atom"], .tuple [.str ",", .str "atom"], .tuple [.str ";", .str "condition"], .tuple [.str "\n", .str "later line"]] : D)), (("condition" : Str), (.tuple [.tuple [.str "TERM", .str "sign"]] : D)), (("sign" : Str), (.tuple [.tuple [.str "=", .str "right side"], .tuple [.str "!=", .str "right side"]] : D)), (("right side" : Str), (.tuple [.tuple [.str "TERM", .str "behind condition"]] : D)), (("behind condition" : Str), (.tuple [.tuple [.str ",", .str "condition"], .tuple [.str "\n", .str "later line"]] : D))])) a0)))) B_read_views_0)
  T_read_views_2))
def F_read_views : Frm → Res Fl := (sSeq (sSetL 2 (lN a0))
  T_read_views_1)
noncomputable def m_read_views : List D → Res RV := hid (defM 2 4 F_read_views)
theorem u_read_views : m_read_views = defM 2 4 F_read_views := hid_eq _
theorem kn_read_views (z_dict : mg "dict" = none) (g_VIEWS_STEPS : GDic K w mg "VIEWS_STEPS" [(("line" : Str), (.tuple [.tuple [.str "view", .str "width"]] : D)), (("later line" : Str), (.tuple [.tuple [.str "view", .str "width"], .tuple [.str "rule", .str "first of head"]] : D)), (("width" : Str), (.tuple [.tuple [.str "NUMBER", .str "behind width"]] : D)), (("behind width" : Str), (.tuple [.tuple [.str "\n", .str "later line"]] : D)), (("first of head" : Str), (.tuple [.tuple [.str "TERM", .str "more of head"]] : D)), (("more of head" : Str), (.tuple [.tuple [.str "TERM", .str "more of head"], .tuple [.str "<-", .str "atom"]] : D)), (("atom" : Str), (.tuple [.tuple [.str "NAME", .str "first of atom"]] : D)), (("first of atom" : Str), (.tuple [.tuple [.str "TERM", .str "more of atom"]] : D)), (("more of atom" : Str), (.tuple [.tuple [.str "TERM", .str "more of atom"], .tuple [.str ",", .str "atom"], .tuple [.str ";", .str "condition"], .tuple [.str "\n", .str "later line"]] : D)), (("condition" : Str), (.tuple [.tuple [.str "TERM", .str "sign"]] : D)), (("sign" : Str), (.tuple [.tuple [.str "=", .str "right side"], .tuple [.str "!=", .str "right side"]] : D)), (("right side" : Str), (.tuple [.tuple [.str "TERM", .str "behind condition"]] : D)), (("behind condition" : Str), (.tuple [.tuple [.str ",", .str "condition"], .tuple [.str "\n", .str "later line"]] : D))]) (kn__read_lines : Known (TabList.mk CL P w) P w K mg base 6 "_read_lines" ["text", "steps"] m__read_lines) (d : Dfn K mg "read_views" s_read_views ["schema", "text"]) : Known (TabList.mk CL P w) P w K mg base 7 "read_views" ["schema", "text"] m_read_views := Known.cast u_read_views (known_of (F := F_read_views) (N := N_read_views) d sc_read_views fun f cdv A outer s H E hr => by
  have C : CtE (cxOf (L2N.CX P w) P w K mg base N_read_views "read_views" (defScope s_read_views) f cdv A outer s H E) := ⟨rfl, sc_read_views.nd, room_ct hr⟩
  exact (dss_cons (ds_setL 2 (dl_lst da_nil) C)
  (dss_kill [3] (dss_cons (ds_forX C (passes_of rfl) (di_any (de_call kn__read_lines hr (by decide) (by rfl) (da_cons (de_var 1) (da_cons (dd_gdict C g_VIEWS_STEPS (by rfl) (by rfl) z_dict).de da_nil)))) (pg_name (i := 3) C.nd rfl (by first | exact Or.inl rfl | exact Or.inr rfl)) (dss_cons ds_bad
  (dss_kill [3] dss_nil)))
  (dss_kill [3] (dss_cons ds_bad
  (dss_one (ds_retO 2))))))))
abbrev s__wish_steps : Stmt := topS 72
abbrev N__wish_steps : List Str := ["schema", "steps", "state", "place", "table", "behind"]
theorem sc__wish_steps : FnScope N__wish_steps ["schema"] (defScope s__wish_steps) := ⟨rfl, rfl, rfl, by decide +kernel, rfl, by decide +kernel, by decide +kernel⟩
theorem bo__wish_steps : BindOk "_wish_steps" s__wish_steps ["schema"] := fun _ _ _ _ _ _ us hl => match us, hl with | [_], _ => rfl
def B__wish_steps_0 : Frm → Res Fl := (sSeq (sSet 5 (eIf (tE boolD (e2 eqD (e2 addD (eVar 3) (eC (.int 1))) (eN (oneD lenD) (aC (eVar 0) a0)))) (eC (.str "edit")) (eFs (jC (eC (.str "line ")) (jC (e1 fmtD (e2 addD (eVar 3) (eC (.int 1)))) j0)))))
  (sSeq (sPutD 1 (eVar 2) (eN tupD (aC (eN tupD (aC (eC (.str "may")) (aC (eFs (jC (eC (.str "name ")) (jC (e1 fmtD (eVar 3)) j0))) a0))) a0)))
  (sSeq (sPutD 1 (eFs (jC (eC (.str "name ")) (jC (e1 fmtD (eVar 3)) j0))) (eN tupD (aC (eN tupD (aC (e2 atD (eVar 4) (eC (.int 0))) (aC (eFs (jC (eC (.str "named ")) (jC (e1 fmtD (eVar 3)) j0))) a0))) a0)))
  (sSeq (sPutD 1 (eFs (jC (eC (.str "named ")) (jC (e1 fmtD (eVar 3)) j0))) (eN tupD (aC (eN tupD (aC (eC (.str "delete")) (aC (eFs (jC (eC (.str "deleting ")) (jC (e1 fmtD (eVar 3)) j0))) a0))) (aC (eN tupD (aC (eC (.str "insert")) (aC (eFs (jC (eC (.str "inserting ")) (jC (e1 fmtD (eVar 3)) j0))) a0))) (aC (eN tupD (aC (eC (.str "\n")) (aC (eVar 5) a0))) a0)))))
  (sSeq (sPutD 1 (eFs (jC (eC (.str "deleting ")) (jC (e1 fmtD (eVar 3)) j0))) (eN tupD (aC (eN tupD (aC (eC (.str "insert")) (aC (eFs (jC (eC (.str "inserting ")) (jC (e1 fmtD (eVar 3)) j0))) a0))) (aC (eN tupD (aC (eC (.str "\n")) (aC (eVar 5) a0))) a0))))
  (sSeq (sPutD 1 (eFs (jC (eC (.str "inserting ")) (jC (e1 fmtD (eVar 3)) j0))) (eN tupD (aC (eN tupD (aC (eC (.str "\n")) (aC (eVar 5) a0))) a0)))
  (sSeq (sSet 2 (eVar 5))
  (sKill [3, 4, 5] sNext))))))))
def T__wish_steps_3 : Frm → Res Fl := (sKill [2, 3, 4, 5] (sFrzD 1 (sRet (eVar 1))))
def T__wish_steps_2 : Frm → Res Fl := (sKill [3, 4, 5] (sSeq (sFor (Tg.tp [3, 4]) (iF enumD (eVar 0)) B__wish_steps_0)
  T__wish_steps_3))
def T__wish_steps_1 : Frm → Res Fl := (sSeq (sSet 2 (eC (.str "line")))
  T__wish_steps_2)
def F__wish_steps : Frm → Res Fl := (sSeq (sSetD 1 (lGDict [(("edit" : Str), (.tuple [.tuple [.str "add", .str "place"], .tuple [.str "remove", .str "place"]] : D)), (("place" : Str), (.tuple [.tuple [.str "NUMBER", .str "first word"]] : D)), (("first word" : Str), (.tuple [.tuple [.str "NAME", .str "more words"]] : D)), (("more words" : Str), (.tuple [.tuple [.str "NAME", .str "more words"], .tuple [.str "\n", .str "edit"]] : D))]))
  T__wish_steps_1)
noncomputable def m__wish_steps : List D → Res RV := hid (defM 1 6 F__wish_steps)
theorem u__wish_steps : m__wish_steps = defM 1 6 F__wish_steps := hid_eq _
theorem kn__wish_steps (z_dict : mg "dict" = none) (z_enumerate : mg "enumerate" = none) (z_len : mg "len" = none) (g_EDIT_STEPS : GDic K w mg "EDIT_STEPS" [(("edit" : Str), (.tuple [.tuple [.str "add", .str "place"], .tuple [.str "remove", .str "place"]] : D)), (("place" : Str), (.tuple [.tuple [.str "NUMBER", .str "first word"]] : D)), (("first word" : Str), (.tuple [.tuple [.str "NAME", .str "more words"]] : D)), (("more words" : Str), (.tuple [.tuple [.str "NAME", .str "more words"], .tuple [.str "\n", .str "edit"]] : D))]) (d : Dfn K mg "_wish_steps" s__wish_steps ["schema"]) : Known (TabList.mk CL P w) P w K mg base 1 "_wish_steps" ["schema"] m__wish_steps := Known.cast u__wish_steps (known_of (F := F__wish_steps) (N := N__wish_steps) d sc__wish_steps fun f cdv A outer s H E hr => by
  have C : CtE (cxOf (L2N.CX P w) P w K mg base N__wish_steps "_wish_steps" (defScope s__wish_steps) f cdv A outer s H E) := ⟨rfl, sc__wish_steps.nd, room_ct hr⟩
  exact (dss_cons (ds_setD 1 (dd_gdict C g_EDIT_STEPS (by rfl) (by rfl) z_dict) C)
  (dss_cons (ds_set 2 de_str C)
  (dss_kill [3, 4, 5] (dss_cons (ds_for C (passes_of rfl) (di_enum (by rfl) z_enumerate (de_var 0)) (pg_tup C.calm (pgs_cons (pg_name (i := 3) C.nd rfl (by first | exact Or.inl rfl | exact Or.inr rfl)) (pgs_cons (pg_name (i := 4) C.nd rfl (by first | exact Or.inl rfl | exact Or.inr rfl)) pgs_nil))) (dss_cons (ds_set 5 (de_if (dt_cmp (od_eq C) (de_bin od_add (de_var 3) de_int) (de_callB cd_len (by rfl) z_len bt_len (da_cons (de_var 0) da_nil))) de_str (de_fstr (dj_cons de_str (dj_cons (de_fmt (de_bin od_add (de_var 3) de_int)) dj_nil)))) C)
  (dss_cons (ds_putD 1 C (de_tup (da_cons (de_tup (da_cons de_str (da_cons (de_fstr (dj_cons de_str (dj_cons (de_fmt (de_var 3)) dj_nil))) da_nil))) da_nil)) (de_var 2))
  (dss_cons (ds_putD 1 C (de_tup (da_cons (de_tup (da_cons (de_ix (de_var 4) de_int) (da_cons (de_fstr (dj_cons de_str (dj_cons (de_fmt (de_var 3)) dj_nil))) da_nil))) da_nil)) (de_fstr (dj_cons de_str (dj_cons (de_fmt (de_var 3)) dj_nil))))
  (dss_cons (ds_putD 1 C (de_tup (da_cons (de_tup (da_cons de_str (da_cons (de_fstr (dj_cons de_str (dj_cons (de_fmt (de_var 3)) dj_nil))) da_nil))) (da_cons (de_tup (da_cons de_str (da_cons (de_fstr (dj_cons de_str (dj_cons (de_fmt (de_var 3)) dj_nil))) da_nil))) (da_cons (de_tup (da_cons de_str (da_cons (de_var 5) da_nil))) da_nil)))) (de_fstr (dj_cons de_str (dj_cons (de_fmt (de_var 3)) dj_nil))))
  (dss_cons (ds_putD 1 C (de_tup (da_cons (de_tup (da_cons de_str (da_cons (de_fstr (dj_cons de_str (dj_cons (de_fmt (de_var 3)) dj_nil))) da_nil))) (da_cons (de_tup (da_cons de_str (da_cons (de_var 5) da_nil))) da_nil))) (de_fstr (dj_cons de_str (dj_cons (de_fmt (de_var 3)) dj_nil))))
  (dss_cons (ds_putD 1 C (de_tup (da_cons (de_tup (da_cons de_str (da_cons (de_var 5) da_nil))) da_nil)) (de_fstr (dj_cons de_str (dj_cons (de_fmt (de_var 3)) dj_nil))))
  (dss_cons (ds_set 2 (de_var 5) C)
  (dss_kill [3, 4, 5] dss_nil)))))))))
  (dss_kill [2, 3, 4, 5] (dss_frzD (i := 1) (dss_one (ds_ret (de_var 1))))))))))
abbrev s_read_wish : Stmt := topS 67
abbrev N_read_wish : List Str := ["schema", "views", "text", "lines", "may", "edits", "words"]
theorem sc_read_wish : FnScope N_read_wish ["schema", "views", "text"] (defScope s_read_wish) := ⟨rfl, rfl, rfl, by decide +kernel, rfl, by decide +kernel, by decide +kernel⟩
theorem bo_read_wish : BindOk "read_wish" s_read_wish ["schema", "views", "text"] := fun _ _ _ _ _ _ us hl => match us, hl with | [_, _, _], _ => rfl
def T_read_wish_5 : Frm → Res Fl := (sFrz 4 (sFrz 5 (sRet (eN tupD (aC (eVar 5) (aC (eVar 4) a0))))))
def T_read_wish_4 : Frm → Res Fl := (sSeq sBad
  T_read_wish_5)
def T_read_wish_3 : Frm → Res Fl := (sSeq sBad
  T_read_wish_4)
def T_read_wish_2 : Frm → Res Fl := (sSeq sBad
  T_read_wish_3)
def T_read_wish_1 : Frm → Res Fl := (sSeq sBad
  T_read_wish_2)
def F_read_wish : Frm → Res Fl := (sSeq (sSet 3 (eCall m__read_lines (aC (eVar 2) (aC (eCall m__wish_steps (aC (eVar 0) a0)) a0))))
  T_read_wish_1)
noncomputable def m_read_wish : List D → Res RV := hid (defM 3 7 F_read_wish)
theorem u_read_wish : m_read_wish = defM 3 7 F_read_wish := hid_eq _
theorem kn_read_wish (kn__read_lines : Known (TabList.mk CL P w) P w K mg base 6 "_read_lines" ["text", "steps"] m__read_lines) (kn__wish_steps : Known (TabList.mk CL P w) P w K mg base 1 "_wish_steps" ["schema"] m__wish_steps) (d : Dfn K mg "read_wish" s_read_wish ["schema", "views", "text"]) : Known (TabList.mk CL P w) P w K mg base 7 "read_wish" ["schema", "views", "text"] m_read_wish := Known.cast u_read_wish (known_of (F := F_read_wish) (N := N_read_wish) d sc_read_wish fun f cdv A outer s H E hr => by
  have C : CtE (cxOf (L2N.CX P w) P w K mg base N_read_wish "read_wish" (defScope s_read_wish) f cdv A outer s H E) := ⟨rfl, sc_read_wish.nd, room_ct hr⟩
  exact (dss_cons (ds_set 3 (de_call kn__read_lines hr (by decide) (by rfl) (da_cons (de_var 2) (da_cons (de_call kn__wish_steps hr (by decide) (by rfl) (da_cons (de_var 0) da_nil)) da_nil))) C)
  (dss_cons ds_bad
  (dss_cons ds_bad
  (dss_cons ds_bad
  (dss_cons ds_bad
  (dss_frz (i := 4) (dss_frz (i := 5) (dss_one (ds_ret (de_tup (da_cons (de_var 5) (da_cons (de_var 4) da_nil)))))))))))))
abbrev s_read_change : Stmt := topS 68
abbrev N_read_change : List Str := ["schema", "database", "text", "lines", "deleted", "inserted", "words"]
theorem sc_read_change : FnScope N_read_change ["schema", "database", "text"] (defScope s_read_change) := ⟨rfl, rfl, rfl, by decide +kernel, rfl, by decide +kernel, by decide +kernel⟩
theorem bo_read_change : BindOk "read_change" s_read_change ["schema", "database", "text"] := fun _ _ _ _ _ _ us hl => match us, hl with | [_, _, _], _ => rfl
def T_read_change_4 : Frm → Res Fl := (sFrz 5 (sFrz 4 (sRet (eN tupD (aC (eVar 4) (aC (eVar 5) a0))))))
def T_read_change_3 : Frm → Res Fl := (sSeq sBad
  T_read_change_4)
def T_read_change_2 : Frm → Res Fl := (sSeq sBad
  T_read_change_3)
def T_read_change_1 : Frm → Res Fl := (sSeq sBad
  T_read_change_2)
def F_read_change : Frm → Res Fl := (sSeq (sSet 3 (eCall m__read_lines (aC (eVar 2) (aC (eDcD (lGDict [(("line" : Str), (.tuple [.tuple [.str "delete", .str "deleted"], .tuple [.str "insert", .str "inserted"]] : D)), (("deleted" : Str), (.tuple [.tuple [.str "NAME", .str "first deleted"]] : D)), (("first deleted" : Str), (.tuple [.tuple [.str "NAME", .str "more deleted"]] : D)), (("more deleted" : Str), (.tuple [.tuple [.str "NAME", .str "more deleted"], .tuple [.str "\n", .str "line"]] : D)), (("later line" : Str), (.tuple [.tuple [.str "insert", .str "inserted"]] : D)), (("inserted" : Str), (.tuple [.tuple [.str "NAME", .str "first inserted"]] : D)), (("first inserted" : Str), (.tuple [.tuple [.str "NAME", .str "more inserted"]] : D)), (("more inserted" : Str), (.tuple [.tuple [.str "NAME", .str "more inserted"], .tuple [.str "\n", .str "later line"]] : D))])) a0))))
  T_read_change_1)
noncomputable def m_read_change : List D → Res RV := hid (defM 3 7 F_read_change)
theorem u_read_change : m_read_change = defM 3 7 F_read_change := hid_eq _
theorem kn_read_change (z_dict : mg "dict" = none) (g_CHANGE_STEPS : GDic K w mg "CHANGE_STEPS" [(("line" : Str), (.tuple [.tuple [.str "delete", .str "deleted"], .tuple [.str "insert", .str "inserted"]] : D)), (("deleted" : Str), (.tuple [.tuple [.str "NAME", .str "first deleted"]] : D)), (("first deleted" : Str), (.tuple [.tuple [.str "NAME", .str "more deleted"]] : D)), (("more deleted" : Str), (.tuple [.tuple [.str "NAME", .str "more deleted"], .tuple [.str "\n", .str "line"]] : D)), (("later line" : Str), (.tuple [.tuple [.str "insert", .str "inserted"]] : D)), (("inserted" : Str), (.tuple [.tuple [.str "NAME", .str "first inserted"]] : D)), (("first inserted" : Str), (.tuple [.tuple [.str "NAME", .str "more inserted"]] : D)), (("more inserted" : Str), (.tuple [.tuple [.str "NAME", .str "more inserted"], .tuple [.str "\n", .str "later line"]] : D))]) (kn__read_lines : Known (TabList.mk CL P w) P w K mg base 6 "_read_lines" ["text", "steps"] m__read_lines) (d : Dfn K mg "read_change" s_read_change ["schema", "database", "text"]) : Known (TabList.mk CL P w) P w K mg base 7 "read_change" ["schema", "database", "text"] m_read_change := Known.cast u_read_change (known_of (F := F_read_change) (N := N_read_change) d sc_read_change fun f cdv A outer s H E hr => by
  have C : CtE (cxOf (L2N.CX P w) P w K mg base N_read_change "read_change" (defScope s_read_change) f cdv A outer s H E) := ⟨rfl, sc_read_change.nd, room_ct hr⟩
  exact (dss_cons (ds_set 3 (de_call kn__read_lines hr (by decide) (by rfl) (da_cons (de_var 2) (da_cons (dd_gdict C g_CHANGE_STEPS (by rfl) (by rfl) z_dict).de da_nil))) C)
  (dss_cons ds_bad
  (dss_cons ds_bad
  (dss_cons ds_bad
  (dss_frz (i := 5) (dss_frz (i := 4) (dss_one (ds_ret (de_tup (da_cons (de_var 4) (da_cons (de_var 5) da_nil))))))))))))
abbrev s__law_read : Stmt := topS 88
abbrev N__law_read : List Str := ["kind", "names", "text", "schema"]
theorem sc__law_read : FnScope N__law_read ["kind", "names", "text"] (defScope s__law_read) := ⟨rfl, rfl, rfl, by decide +kernel, rfl, by decide +kernel, by decide +kernel⟩
theorem bo__law_read : BindOk "_law_read" s__law_read ["kind", "names", "text"] := fun _ _ _ _ _ _ us hl => match us, hl with | [_, _, _], _ => rfl
def T__law_read_4 : Frm → Res Fl := (sRet (eCall m_read_change (aC (eVar 3) (aC (eL (lN a0)) (aC (eVar 2) a0)))))
def T__law_read_3 : Frm → Res Fl := (sSeq (sIf (tE boolD (e2 eqD (eVar 0) (eC (.int 2)))) (sRet (eCall m_read_wish (aC (eVar 3) (aC (eL (lN (aC (eN tupD (aC (eC (.int 1)) (aC (eL (lN (aC (eN tupD (aC (eN tupD (aC (eN tupD (aC (eC (.str "var")) (aC (eC (.int 0)) a0))) a0)) (aC (eL (lN (aC (eN tupD (aC (e2 atD (eVar 1) (eC (.int 0))) (aC (eN tupD (aC (eN tupD (aC (eC (.str "var")) (aC (eC (.int 0)) a0))) a0)) a0))) a0))) (aC (eL (lN a0)) a0)))) a0))) a0))) a0))) (aC (eVar 2) a0))))) sNext)
  T__law_read_4)
def T__law_read_2 : Frm → Res Fl := (sSeq (sIf (tE boolD (e2 eqD (eVar 0) (eC (.int 1)))) (sRet (eCall m_read_views (aC (eVar 3) (aC (eVar 2) a0)))) sNext)
  T__law_read_3)
def T__law_read_1 : Frm → Res Fl := (sSeq (sIf (tE boolD (e2 eqD (eVar 0) (eC (.int 0)))) (sRet (eCall m_read_schema (aC (eVar 2) a0))) sNext)
  T__law_read_2)
def F__law_read : Frm → Res Fl := (sSeq (sSet 3 (eL (lN (aC (eN tupD (aC (e2 atD (eVar 1) (eC (.int 0))) (aC (eC (.int 1)) (aC (eC .none) a0)))) (aC (eN tupD (aC (e2 atD (eVar 1) (eC (.int 1))) (aC (eC (.int 2)) (aC (eC (.int 1)) a0)))) a0)))))
  T__law_read_1)
noncomputable def m__law_read : List D → Res RV := hid (defM 3 4 F__law_read)
theorem u__law_read : m__law_read = defM 3 4 F__law_read := hid_eq _
theorem kn__law_read (kn_read_change : Known (TabList.mk CL P w) P w K mg base 7 "read_change" ["schema", "database", "text"] m_read_change) (kn_read_schema : Known (TabList.mk CL P w) P w K mg base 7 "read_schema" ["text"] m_read_schema) (kn_read_views : Known (TabList.mk CL P w) P w K mg base 7 "read_views" ["schema", "text"] m_read_views) (kn_read_wish : Known (TabList.mk CL P w) P w K mg base 7 "read_wish" ["schema", "views", "text"] m_read_wish) (d : Dfn K mg "_law_read" s__law_read ["kind", "names", "text"]) : Known (TabList.mk CL P w) P w K mg base 8 "_law_read" ["kind", "names", "text"] m__law_read := Known.cast u__law_read (known_of (F := F__law_read) (N := N__law_read) d sc__law_read fun f cdv A outer s H E hr => by
  have C : CtE (cxOf (L2N.CX P w) P w K mg base N__law_read "_law_read" (defScope s__law_read) f cdv A outer s H E) := ⟨rfl, sc__law_read.nd, room_ct hr⟩
  exact (dss_cons (ds_set 3 (dl_lst (da_cons (de_tup (da_cons (de_ix (de_var 1) de_int) (da_cons de_int (da_cons de_non da_nil)))) (da_cons (de_tup (da_cons (de_ix (de_var 1) de_int) (da_cons de_int (da_cons de_int da_nil)))) da_nil))).de C)
  (dss_cons (ds_if (dt_cmp (od_eq C) (de_var 0) de_int) (dss_one (ds_ret (de_call kn_read_schema hr (by decide) (by rfl) (da_cons (de_var 2) da_nil)))) dss_nil)
  (dss_cons (ds_if (dt_cmp (od_eq C) (de_var 0) de_int) (dss_one (ds_ret (de_call kn_read_views hr (by decide) (by rfl) (da_cons (de_var 3) (da_cons (de_var 2) da_nil))))) dss_nil)
  (dss_cons (ds_if (dt_cmp (od_eq C) (de_var 0) de_int) (dss_one (ds_ret (de_call kn_read_wish hr (by decide) (by rfl) (da_cons (de_var 3) (da_cons (dl_lst (da_cons (de_tup (da_cons de_int (da_cons (dl_lst (da_cons (de_tup (da_cons (de_tup (da_cons (de_tup (da_cons de_str (da_cons de_int da_nil))) da_nil)) (da_cons (dl_lst (da_cons (de_tup (da_cons (de_ix (de_var 1) de_int) (da_cons (de_tup (da_cons (de_tup (da_cons de_str (da_cons de_int da_nil))) da_nil)) da_nil))) da_nil)).de (da_cons (dl_lst da_nil).de da_nil)))) da_nil)).de da_nil))) da_nil)).de (da_cons (de_var 2) da_nil)))))) dss_nil)
  (dss_one (ds_ret (de_call kn_read_change hr (by decide) (by rfl) (da_cons (de_var 3) (da_cons (dl_lst da_nil).de (da_cons (de_var 2) da_nil)))))))))))
abbrev s__law_is_integer : Stmt := topS 82
abbrev N__law_is_integer : List Str := ["actual"]
theorem sc__law_is_integer : FnScope N__law_is_integer ["actual"] (defScope s__law_is_integer) := ⟨rfl, rfl, rfl, by decide +kernel, rfl, by decide +kernel, by decide +kernel⟩
theorem bo__law_is_integer : BindOk "_law_is_integer" s__law_is_integer ["actual"] := fun _ _ _ _ _ _ us hl => match us, hl with | [_], _ => rfl
def F__law_is_integer : Frm → Res Fl := (sRet (eAnd (e1 (isiD "int") (eVar 0)) (eNot (e1 (isiD "bool") (eVar 0)))))
noncomputable def m__law_is_integer : List D → Res RV := hid (defM 1 1 F__law_is_integer)
theorem u__law_is_integer : m__law_is_integer = defM 1 1 F__law_is_integer := hid_eq _
theorem kn__law_is_integer (z_bool : mg "bool" = none) (z_int : mg "int" = none) (z_isinstance : mg "isinstance" = none) (d : Dfn K mg "_law_is_integer" s__law_is_integer ["actual"]) : Known (TabList.mk CL P w) P w K mg base 1 "_law_is_integer" ["actual"] m__law_is_integer := Known.cast u__law_is_integer (known_of (F := F__law_is_integer) (N := N__law_is_integer) d sc__law_is_integer fun f cdv A outer s H E hr => by
  have C : CtE (cxOf (L2N.CX P w) P w K mg base N__law_is_integer "_law_is_integer" (defScope s__law_is_integer) f cdv A outer s H E) := ⟨rfl, sc__law_is_integer.nd, room_ct hr⟩
  exact (dss_one (ds_ret (de_and (de_isi kit_int (by rfl) z_isinstance (by rfl) z_int bt_int (de_var 0)) (de_one (de_not (de_isi kit_bool (by rfl) z_isinstance (by rfl) z_bool bt_bool (de_var 0))))))))
theorem kh__law_is_integer {TS : TabList} (z_bool : mg "bool" = none) (z_int : mg "int" = none) (z_isinstance : mg "isinstance" = none) (d : Dfn K mg "_law_is_integer" s__law_is_integer ["actual"]) : KnownH TS P w K mg base 1 "_law_is_integer" ["actual"] m__law_is_integer := KnownH.cast u__law_is_integer (knownH_of (F := F__law_is_integer) (N := N__law_is_integer) d sc__law_is_integer fun f cdv A outer s H E p => (dss_one (ds_ret (de_and (de_isi kit_int (by rfl) z_isinstance (by rfl) z_int bt_int (de_var 0)) (de_one (de_not (de_isi kit_bool (by rfl) z_isinstance (by rfl) z_bool bt_bool (de_var 0))))))))
abbrev s__law_told : Stmt := topS 89
abbrev N__law_told : List Str := ["kind", "names", "lines", "place", "text", "column", "word", "e", "words"]
theorem sc__law_told : FnScope N__law_told ["kind", "names", "lines", "place"] (defScope s__law_told) := ⟨rfl, rfl, rfl, by decide +kernel, rfl, by decide +kernel, by decide +kernel⟩
theorem bo__law_told : BindOk "_law_told" s__law_told ["kind", "names", "lines", "place"] := fun _ _ _ _ _ _ us hl => match us, hl with | [_, _, _, _], _ => rfl
def B__law_told_0 : Frm → Res Fl := (sSeq (sSet 5 (e2 addD (e2 addD (eVar 5) (eN (oneD lenD) (aC (eVar 6) a0))) (eC (.int 1))))
  (sKill [6] sNext))
def T__law_told_5 : Frm → Res Fl := (sRet (eC (.bool false)))
def T__law_told_4 : Frm → Res Fl := (sSeq (sTryF ctTab_BadText 7 (sDropP (eCall m__law_read (aC (eVar 0) (aC (eVar 1) (aC (eVar 4) a0))))) (sSeq (sIf (tOrR (tNotR (tE truD (eCallV m__law_is_integer (aC (eXf xfTab 7 "line") a0)))) (tNotR (tE truD (eCallV m__law_is_integer (aC (eXf xfTab 7 "column") a0))))) (sRet (eC (.bool false))) sNext)
  (sRet (eAnd (e2 eqD (eXf xfTab 7 "line") (e2 addD (e2 atD (eVar 3) (eC (.int 0))) (eC (.int 1)))) (e2 eqD (eXf xfTab 7 "column") (eVar 5))))))
  T__law_told_5)
def T__law_told_3 : Frm → Res Fl := (sKill [6] (sSeq (sIf (tE boolD (e2 eqD (e2 atD (eVar 3) (eC (.int 1))) (eN (oneD lenD) (aC (e2 atD (eVar 2) (e2 atD (eVar 3) (eC (.int 0)))) a0)))) (sSet 5 (e2 subD (eVar 5) (eC (.int 1)))) sNext)
  T__law_told_4))
def T__law_told_2 : Frm → Res Fl := (sKill [6, 8] (sSeq (sFor (Tg.nm 6) (iF walkD (eSlice (e2 atD (eVar 2) (e2 atD (eVar 3) (eC (.int 0)))) oNone (oSome (e2 atD (eVar 3) (eC (.int 1)))))) B__law_told_0)
  T__law_told_3))
def T__law_told_1 : Frm → Res Fl := (sSeq (sSet 5 (eC (.int 1)))
  T__law_told_2)
def F__law_told : Frm → Res Fl := (sSeq (sSet 4 (eJoin (eC (.str "")) (eL (lComp [8] (Tg.nm 8) (iF walkD (eVar 2)) tYesR (e2 addD (eJoin (eC (.str " ")) (eVar 8)) (eC (.str "\n")))))))
  T__law_told_1)
noncomputable def m__law_told : List D → Res RV := hid (defM 4 9 F__law_told)
theorem u__law_told : m__law_told = defM 4 9 F__law_told := hid_eq _
theorem kn__law_told (z_len : mg "len" = none) (kn__law_read : Known (TabList.mk CL P w) P w K mg base 8 "_law_read" ["kind", "names", "text"] m__law_read) (kh__law_is_integer : ∀ TS : TabList, KnownH TS P w K mg base 1 "_law_is_integer" ["actual"] m__law_is_integer) (xt : XfT K mg xfTab) (ct_BadText : CtT K mg "BadText" ctTab_BadText) (d : Dfn K mg "_law_told" s__law_told ["kind", "names", "lines", "place"]) : Known (TabList.mk CL P w) P w K mg base 9 "_law_told" ["kind", "names", "lines", "place"] m__law_told := Known.cast u__law_told (known_of (F := F__law_told) (N := N__law_told) d sc__law_told fun f cdv A outer s H E hr => by
  have C : CtE (cxOf (L2N.CX P w) P w K mg base N__law_told "_law_told" (defScope s__law_told) f cdv A outer s H E) := ⟨rfl, sc__law_told.nd, room_ct hr⟩
  exact (dss_cons (ds_set 4 (de_join de_str (dl_comp C (di_any (de_var 2)) (blkOk_by (N := N__law_told) (sc := defScope s__law_told) (own := [("words", 8)]) (by decide +kernel)) (by decide) (fun _ _ _ _ _ => (pg_name (i := 8) C.blk.nd rfl (by first | exact Or.inl rfl | exact Or.inr rfl))) (fun _ _ _ _ _ => dts_nil) (fun _ _ _ _ _ => (de_bin od_add (de_join de_str (de_var 8)) de_str))).de) C)
  (dss_cons (ds_set 5 de_int C)
  (dss_kill [6, 8] (dss_cons (ds_for C (passes_of rfl) (di_any (de_slice (de_ix (de_var 2) (de_ix (de_var 3) de_int)) do_none (do_some (de_ix (de_var 3) de_int)))) (pg_name (i := 6) C.nd rfl (by first | exact Or.inl rfl | exact Or.inr rfl)) (dss_cons (ds_set 5 (de_bin od_add (de_bin od_add (de_var 5) (de_callB cd_len (by rfl) z_len bt_len (da_cons (de_var 6) da_nil))) de_int) C)
  (dss_kill [6] dss_nil)))
  (dss_kill [6] (dss_cons (ds_if (dt_cmp (od_eq C) (de_ix (de_var 3) de_int) (de_callB cd_len (by rfl) z_len bt_len (da_cons (de_ix (de_var 2) (de_ix (de_var 3) de_int)) da_nil))) (dss_one (ds_set 5 (de_bin od_sub (de_var 5) de_int) C)) dss_nil)
  (dss_cons (ds_tryF (i := 7) rfl rfl C.nd rfl rfl (by rfl) (by decide) ct_BadText rfl (fun pn xe => have C := C.tr pn xe; (dsx_drop (de_call kn__law_read hr (by decide) (by rfl) (da_cons (de_var 0) (da_cons (de_var 1) (da_cons (de_var 4) da_nil)))))) (fun a oe E pn c xd hc hz hfl => have CB := CtE.suite (a := a) (pn := pn) C hz hfl; (dss_cons (ds_if (dw_or (dt_not (dt_tru (de_callH (kh__law_is_integer _) CB (roomS hr) (by decide) (by rfl) (da_cons (de_xf xt hc hz.zc hfl rfl (Or.inl rfl)) da_nil)))) (dw_or1 (dt_not (dt_tru (de_callH (kh__law_is_integer _) CB (roomS hr) (by decide) (by rfl) (da_cons (de_xf xt hc hz.zc hfl rfl (Or.inl rfl)) da_nil)))))).dt (dss_one (ds_ret de_bl)) dss_nil)
  (dss_one (ds_ret (de_and (de_cmp (od_eqB CB) (de_xf xt hc hz.zc hfl rfl (Or.inl rfl)) (de_bin od_add (de_ix (de_var 3) de_int) de_int)) (de_one (de_cmp (od_eqB CB) (de_xf xt hc hz.zc hfl rfl (Or.inl rfl)) (de_var 5)))))))))
  (dss_one (ds_ret de_bl))))))))))
abbrev s__fact_of : Stmt := topS 74
abbrev N__fact_of : List Str := ["words"]
theorem sc__fact_of : FnScope N__fact_of ["words"] (defScope s__fact_of) := ⟨rfl, rfl, rfl, by decide +kernel, rfl, by decide +kernel, by decide +kernel⟩
theorem bo__fact_of : BindOk "_fact_of" s__fact_of ["words"] := fun _ _ _ _ _ _ us hl => match us, hl with | [_], _ => rfl
def F__fact_of : Frm → Res Fl := (sRet (eN tupD (aC (e2 atD (eVar 0) (eC (.int 0))) (aC (eN (oneD fun d => (itemsD d).map .tuple) (aC (eSlice (eVar 0) (oSome (eC (.int 1))) oNone) a0)) a0))))
noncomputable def m__fact_of : List D → Res RV := hid (defM 1 1 F__fact_of)
theorem u__fact_of : m__fact_of = defM 1 1 F__fact_of := hid_eq _
theorem kn__fact_of (z_tuple : mg "tuple" = none) (d : Dfn K mg "_fact_of" s__fact_of ["words"]) : Known (TabList.mk CL P w) P w K mg base 1 "_fact_of" ["words"] m__fact_of := Known.cast u__fact_of (known_of (F := F__fact_of) (N := N__fact_of) d sc__fact_of fun f cdv A outer s H E hr => by
  have C : CtE (cxOf (L2N.CX P w) P w K mg base N__fact_of "_fact_of" (defScope s__fact_of) f cdv A outer s H E) := ⟨rfl, sc__fact_of.nd, room_ct hr⟩
  exact (dss_one (ds_ret (de_tup (da_cons (de_ix (de_var 0) de_int) (da_cons (de_callTy cd_tuple (by rfl) z_tuple bt_tuple (da_cons (de_slice (de_var 0) (do_some de_int) do_none) da_nil)) da_nil))))))
abbrev s__facts_of : Stmt := topS 75
abbrev N__facts_of : List Str := ["text", "words"]
theorem sc__facts_of : FnScope N__facts_of ["text"] (defScope s__facts_of) := ⟨rfl, rfl, rfl, by decide +kernel, rfl, by decide +kernel, by decide +kernel⟩
theorem bo__facts_of : BindOk "_facts_of" s__facts_of ["text"] := fun _ _ _ _ _ _ us hl => match us, hl with | [_], _ => rfl
def F__facts_of : Frm → Res Fl := (sRetL (lComp [1] (Tg.nm 1) (iF walkD (eCall m__read_lines (aC (eVar 0) (aC (eDcD (lGDict [(("line" : Str), (.tuple [.tuple [.str "NAME", .str "first word"]] : D)), (("first word" : Str), (.tuple [.tuple [.str "NAME", .str "more words"]] : D)), (("more words" : Str), (.tuple [.tuple [.str "NAME", .str "more words"], .tuple [.str "\n", .str "line"]] : D))])) a0)))) tYesR (eCall m__fact_of (aC (eVar 1) a0))))
noncomputable def m__facts_of : List D → Res RV := hid (defM 1 2 F__facts_of)
theorem u__facts_of : m__facts_of = defM 1 2 F__facts_of := hid_eq _
theorem kn__facts_of (z_dict : mg "dict" = none) (g_FACTS_STEPS : GDic K w mg "FACTS_STEPS" [(("line" : Str), (.tuple [.tuple [.str "NAME", .str "first word"]] : D)), (("first word" : Str), (.tuple [.tuple [.str "NAME", .str "more words"]] : D)), (("more words" : Str), (.tuple [.tuple [.str "NAME", .str "more words"], .tuple [.str "\n", .str "line"]] : D))]) (kn__fact_of : Known (TabList.mk CL P w) P w K mg base 1 "_fact_of" ["words"] m__fact_of) (kn__read_lines : Known (TabList.mk CL P w) P w K mg base 6 "_read_lines" ["text", "steps"] m__read_lines) (d : Dfn K mg "_facts_of" s__facts_of ["text"]) : Known (TabList.mk CL P w) P w K mg base 7 "_facts_of" ["text"] m__facts_of := Known.cast u__facts_of (known_of (F := F__facts_of) (N := N__facts_of) d sc__facts_of fun f cdv A outer s H E hr => by
  have C : CtE (cxOf (L2N.CX P w) P w K mg base N__facts_of "_facts_of" (defScope s__facts_of) f cdv A outer s H E) := ⟨rfl, sc__facts_of.nd, room_ct hr⟩
  exact (dss_one (ds_retL (dl_comp C (di_any (de_call kn__read_lines hr (by decide) (by rfl) (da_cons (de_var 0) (da_cons (dd_gdict C g_FACTS_STEPS (by rfl) (by rfl) z_dict).de da_nil)))) (blkOk_by (N := N__facts_of) (sc := defScope s__facts_of) (own := [("words", 1)]) (by decide +kernel)) (by decide) (fun _ _ _ _ _ => (pg_name (i := 1) C.blk.nd rfl (by first | exact Or.inl rfl | exact Or.inr rfl))) (fun _ _ _ _ _ => dts_nil) (fun _ _ _ _ _ => (de_call kn__fact_of hr (by decide) (by rfl) (da_cons (de_var 1) da_nil)))))))
abbrev s_read_facts : Stmt := topS 65
abbrev N_read_facts : List Str := ["schema", "text", "facts"]
theorem sc_read_facts : FnScope N_read_facts ["schema", "text"] (defScope s_read_facts) := ⟨rfl, rfl, rfl, by decide +kernel, rfl, by decide +kernel, by decide +kernel⟩
theorem bo_read_facts : BindOk "read_facts" s_read_facts ["schema", "text"] := fun _ _ _ _ _ _ us hl => match us, hl with | [_, _], _ => rfl
def F_read_facts : Frm → Res Fl := (sSeq (sSet 2 (eCall m__facts_of (aC (eVar 1) a0)))
  (sSeq sBad
  (sRet (eVar 2))))
noncomputable def m_read_facts : List D → Res RV := hid (defM 2 3 F_read_facts)
theorem u_read_facts : m_read_facts = defM 2 3 F_read_facts := hid_eq _
theorem kn_read_facts (kn__facts_of : Known (TabList.mk CL P w) P w K mg base 7 "_facts_of" ["text"] m__facts_of) (d : Dfn K mg "read_facts" s_read_facts ["schema", "text"]) : Known (TabList.mk CL P w) P w K mg base 8 "read_facts" ["schema", "text"] m_read_facts := Known.cast u_read_facts (known_of (F := F_read_facts) (N := N_read_facts) d sc_read_facts fun f cdv A outer s H E hr => by
  have C : CtE (cxOf (L2N.CX P w) P w K mg base N_read_facts "read_facts" (defScope s_read_facts) f cdv A outer s H E) := ⟨rfl, sc_read_facts.nd, room_ct hr⟩
  exact (dss_cons (ds_set 2 (de_call kn__facts_of hr (by decide) (by rfl) (da_cons (de_var 1) da_nil)) C)
  (dss_cons ds_bad
  (dss_one (ds_ret (de_var 2))))))
abbrev s__law_facts_told : Stmt := topS 90
abbrev N__law_facts_told : List Str := ["names", "words", "e"]
theorem sc__law_facts_told : FnScope N__law_facts_told ["names", "words"] (defScope s__law_facts_told) := ⟨rfl, rfl, rfl, by decide +kernel, rfl, by decide +kernel, by decide +kernel⟩
theorem bo__law_facts_told : BindOk "_law_facts_told" s__law_facts_told ["names", "words"] := fun _ _ _ _ _ _ us hl => match us, hl with | [_, _], _ => rfl
def F__law_facts_told : Frm → Res Fl := (sSeq (sTryF ctTab_BadText 2 (sDropP (eCall m_read_facts (aC (eL (lN (aC (eN tupD (aC (e2 atD (eVar 0) (eC (.int 0))) (aC (eC (.int 1)) (aC (eC .none) a0)))) a0))) (aC (e2 addD (e2 addD (e2 addD (e2 addD (e2 addD (e2 addD (e2 addD (e2 atD (eVar 0) (eC (.int 1))) (eC (.str " "))) (e2 atD (eVar 1) (eC (.int 0)))) (eC (.str "\n"))) (e2 atD (eVar 0) (eC (.int 0)))) (eC (.str " "))) (e2 atD (eVar 1) (eC (.int 1)))) (eC (.str " ?0\n"))) a0)))) (sRet (eAnd (e2 eqD (eXf xfTab 2 "line") (eC (.int 2))) (e2 eqD (eXf xfTab 2 "column") (e2 addD (e2 addD (eN (oneD lenD) (aC (e2 atD (eVar 0) (eC (.int 0))) a0)) (eN (oneD lenD) (aC (e2 atD (eVar 1) (eC (.int 1))) a0))) (eC (.int 3)))))))
  (sRet (eC (.bool false))))
noncomputable def m__law_facts_told : List D → Res RV := hid (defM 2 3 F__law_facts_told)
theorem u__law_facts_told : m__law_facts_told = defM 2 3 F__law_facts_told := hid_eq _
theorem kn__law_facts_told (z_len : mg "len" = none) (kn_read_facts : Known (TabList.mk CL P w) P w K mg base 8 "read_facts" ["schema", "text"] m_read_facts) (xt : XfT K mg xfTab) (ct_BadText : CtT K mg "BadText" ctTab_BadText) (d : Dfn K mg "_law_facts_told" s__law_facts_told ["names", "words"]) : Known (TabList.mk CL P w) P w K mg base 9 "_law_facts_told" ["names", "words"] m__law_facts_told := Known.cast u__law_facts_told (known_of (F := F__law_facts_told) (N := N__law_facts_told) d sc__law_facts_told fun f cdv A outer s H E hr => by
  have C : CtE (cxOf (L2N.CX P w) P w K mg base N__law_facts_told "_law_facts_told" (defScope s__law_facts_told) f cdv A outer s H E) := ⟨rfl, sc__law_facts_told.nd, room_ct hr⟩
  exact (dss_cons (ds_tryF (i := 2) rfl rfl C.nd rfl rfl (by rfl) (by decide) ct_BadText rfl (fun pn xe => have C := C.tr pn xe; (dsx_drop (de_call kn_read_facts hr (by decide) (by rfl) (da_cons (dl_lst (da_cons (de_tup (da_cons (de_ix (de_var 0) de_int) (da_cons de_int (da_cons de_non da_nil)))) da_nil)).de (da_cons (de_bin od_add (de_bin od_add (de_bin od_add (de_bin od_add (de_bin od_add (de_bin od_add (de_bin od_add (de_ix (de_var 0) de_int) de_str) (de_ix (de_var 1) de_int)) de_str) (de_ix (de_var 0) de_int)) de_str) (de_ix (de_var 1) de_int)) de_str) da_nil))))) (fun a oe E pn c xd hc hz hfl => have CB := CtE.suite (a := a) (pn := pn) C hz hfl; (dss_one (ds_ret (de_and (de_cmp (od_eqB CB) (de_xf xt hc hz.zc hfl rfl (Or.inl rfl)) de_int) (de_one (de_cmp (od_eqB CB) (de_xf xt hc hz.zc hfl rfl (Or.inl rfl)) (de_bin od_add (de_bin od_add (de_callB cd_len (by rfl) z_len bt_len (da_cons (de_ix (de_var 0) de_int) da_nil)) (de_callB cd_len (by rfl) z_len bt_len (da_cons (de_ix (de_var 1) de_int) da_nil))) de_int))))))))
  (dss_one (ds_ret de_bl))))
abbrev s_law : Stmt := topS 91
abbrev N_law : List Str := ["script", "draws", "names", "words", "kind", "lines", "at", "line", "place"]
theorem sc_law : FnScope N_law ["script"] (defScope s_law) := ⟨rfl, rfl, rfl, by decide +kernel, rfl, by decide +kernel, by decide +kernel⟩
theorem bo_law : BindOk "law" s_law ["script"] := fun _ _ _ _ _ _ us hl => match us, hl with | [_], _ => rfl
def T_law_6 : Frm → Res Fl := (sRet (eAnd (eCall m__law_told (aC (eVar 4) (aC (eVar 2) (aC (eVar 5) (aC (eVar 6) a0))))) (eCall m__law_facts_told (aC (eVar 2) (aC (eVar 3) a0)))))
def T_law_5 : Frm → Res Fl := (sKill [7, 8] (sSeq (sIf (tAndR (tE boolD (e2 neD (eVar 4) (eC (.int 2)))) (tAndR (tE boolD (e2 neD (e2 atD (e2 atD (eVar 5) (eC (.int 0))) (eC (.int 0))) (eC (.str "rule")))) (tE boolD (e2 eqD (e2 modD (eN (oneD int2D) (aC (e2 atD (eVar 1) (eC (.int 7))) a0)) (eC (.int 2))) (eC (.int 1)))))) (sSeq (sSet 5 (e2 addD (eL (lN (aC (eCall m__law_ahead (aC (eVar 4) (aC (eVar 2) (aC (eVar 3) a0)))) a0))) (eVar 5)))
  (sSet 6 (eN tupD (aC (e2 addD (e2 atD (eVar 6) (eC (.int 0))) (eC (.int 1))) (aC (e2 atD (eVar 6) (eC (.int 1))) a0))))) sNext)
  T_law_6))
def T_law_4 : Frm → Res Fl := (sSeq (sIf (tE boolD (e2 eqD (eVar 4) (eC (.int 0)))) (sSeq (sSetT (Tg.tp [7, 8]) (eCall m__law_schema_case (aC (eVar 2) (aC (eVar 3) (aC (eN (oneD int2D) (aC (e2 atD (eVar 1) (eC (.int 5))) a0)) a0)))))
  (sPar 5 6 (aC (eL (lN (aC (eVar 7) a0))) (aC (eN tupD (aC (eC (.int 0)) (aC (eVar 8) a0))) a0)))) (sIf (tE boolD (e2 eqD (eVar 4) (eC (.int 1)))) (sSeq (sSetT (Tg.tp [7, 8]) (eCall m__law_view_case (aC (eVar 2) (aC (eVar 3) (aC (eN (oneD int2D) (aC (e2 atD (eVar 1) (eC (.int 5))) a0)) a0)))))
  (sSeq (sPar 5 6 (aC (eL (lN (aC (eL (lN (aC (eC (.str "view")) (aC (eC (.str "1")) a0)))) (aC (eVar 7) a0)))) (aC (eN tupD (aC (eC (.int 1)) (aC (eVar 8) a0))) a0)))
  (sIf (tE boolD (e2 eqD (e2 modD (eN (oneD int2D) (aC (e2 atD (eVar 1) (eC (.int 6))) a0)) (eC (.int 5))) (eC (.int 0)))) (sPar 5 6 (aC (eL (lN (aC (eL (lN (aC (eC (.str "rule")) (aC (eC (.str "?0")) (aC (eC (.str "<-")) (aC (e2 atD (eVar 2) (eC (.int 0))) (aC (eC (.str "?0")) a0))))))) a0))) (aC (eN tupD (aC (eC (.int 0)) (aC (eC (.int 0)) a0))) a0))) sNext))) (sIf (tE boolD (e2 eqD (eVar 4) (eC (.int 2)))) (sSetT (Tg.tp [5, 6]) (eCall m__law_wish_case (aC (eVar 2) (aC (eVar 3) (aC (eN (oneD int2D) (aC (e2 atD (eVar 1) (eC (.int 5))) a0)) a0))))) (sSetT (Tg.tp [5, 6]) (eCall m__law_change_case (aC (eVar 2) (aC (eVar 3) (aC (eN (oneD int2D) (aC (e2 atD (eVar 1) (eC (.int 5))) a0)) a0))))))))
  T_law_5)
def T_law_3 : Frm → Res Fl := (sSeq (sSet 4 (e2 modD (eN (oneD int2D) (aC (e2 atD (eVar 1) (eC (.int 4))) a0)) (eC (.int 4))))
  T_law_4)
def T_law_2 : Frm → Res Fl := (sSeq (sSet 3 (eCall m__law_pool (aC (e2 atD (eVar 1) (eC (.int 2))) (aC (e2 atD (eVar 1) (eC (.int 3))) (aC (eC (.int 3)) a0)))))
  T_law_3)
def T_law_1 : Frm → Res Fl := (sSeq (sSet 2 (eCall m__law_pool (aC (e2 atD (eVar 1) (eC (.int 0))) (aC (e2 atD (eVar 1) (eC (.int 1))) (aC (eC (.int 2)) a0)))))
  T_law_2)
def F_law : Frm → Res Fl := (sSeq (sSet 1 (eCall m__law_draws (aC (eVar 0) (aC (eC (.int 12)) a0))))
  T_law_1)
def m_law : List D → Res RV := defM 1 9 F_law
theorem fk_law (z_int : mg "int" = none) (kn__law_ahead : Known (TabList.mk CL P w) P w K mg base 1 "_law_ahead" ["kind", "names", "words"] m__law_ahead) (kn__law_change_case : Known (TabList.mk CL P w) P w K mg base 1 "_law_change_case" ["names", "words", "case"] m__law_change_case) (kn__law_draws : Known (TabList.mk CL P w) P w K mg base 1 "_law_draws" ["script", "count"] m__law_draws) (kn__law_facts_told : Known (TabList.mk CL P w) P w K mg base 9 "_law_facts_told" ["names", "words"] m__law_facts_told) (kn__law_pool : Known (TabList.mk CL P w) P w K mg base 1 "_law_pool" ["first", "second", "many"] m__law_pool) (kn__law_schema_case : Known (TabList.mk CL P w) P w K mg base 1 "_law_schema_case" ["names", "words", "case"] m__law_schema_case) (kn__law_told : Known (TabList.mk CL P w) P w K mg base 9 "_law_told" ["kind", "names", "lines", "place"] m__law_told) (kn__law_view_case : Known (TabList.mk CL P w) P w K mg base 1 "_law_view_case" ["names", "words", "case"] m__law_view_case) (kn__law_wish_case : Known (TabList.mk CL P w) P w K mg base 1 "_law_wish_case" ["names", "words", "case"] m__law_wish_case) (f : Addr) (cdv : Value) (s : Shared) (H : Hp) (E : XK) (hr : Room 9 (callerA.deeper (envOfC "law" (defScope s_law) s.heap.objs.size f cdv))) : DSs (TabList.mk CL P w) (cxOf (L2N.CX P w) P w K mg base N_law "law" (defScope s_law) f cdv callerA [] s H E) (defBody s_law) F_law := by
  have C : CtE (cxOf (L2N.CX P w) P w K mg base N_law "law" (defScope s_law) f cdv callerA [] s H E) := ⟨rfl, sc_law.nd, room_ct hr⟩
  exact (dss_cons (ds_set 1 (de_call kn__law_draws hr (by decide) (by rfl) (da_cons (de_var 0) (da_cons de_int da_nil))) C)
  (dss_cons (ds_set 2 (de_call kn__law_pool hr (by decide) (by rfl) (da_cons (de_ix (de_var 1) de_int) (da_cons (de_ix (de_var 1) de_int) (da_cons de_int da_nil)))) C)
  (dss_cons (ds_set 3 (de_call kn__law_pool hr (by decide) (by rfl) (da_cons (de_ix (de_var 1) de_int) (da_cons (de_ix (de_var 1) de_int) (da_cons de_int da_nil)))) C)
  (dss_cons (ds_set 4 (de_bin od_mod (de_callTy cd_int2 (by rfl) z_int bt_int (da_cons (de_ix (de_var 1) de_int) da_nil)) de_int) C)
  (dss_cons (ds_if (dt_cmp (od_eq C) (de_var 4) de_int) (dss_cons (ds_setT (de_call kn__law_schema_case hr (by decide) (by rfl) (da_cons (de_var 2) (da_cons (de_var 3) (da_cons (de_callTy cd_int2 (by rfl) z_int bt_int (da_cons (de_ix (de_var 1) de_int) da_nil)) da_nil)))) (pg_tup C.calm (pgs_cons (pg_name (i := 7) C.nd rfl (by first | exact Or.inl rfl | exact Or.inr rfl)) (pgs_cons (pg_name (i := 8) C.nd rfl (by first | exact Or.inl rfl | exact Or.inr rfl)) pgs_nil))))
  (dss_one (ds_par 5 6 C (da_cons (dl_lst (da_cons (de_var 7) da_nil)).de (da_cons (de_tup (da_cons de_int (da_cons (de_var 8) da_nil))) da_nil)) (by decide) rfl rfl rfl rfl (by rfl)))) (dss_one (ds_if (dt_cmp (od_eq C) (de_var 4) de_int) (dss_cons (ds_setT (de_call kn__law_view_case hr (by decide) (by rfl) (da_cons (de_var 2) (da_cons (de_var 3) (da_cons (de_callTy cd_int2 (by rfl) z_int bt_int (da_cons (de_ix (de_var 1) de_int) da_nil)) da_nil)))) (pg_tup C.calm (pgs_cons (pg_name (i := 7) C.nd rfl (by first | exact Or.inl rfl | exact Or.inr rfl)) (pgs_cons (pg_name (i := 8) C.nd rfl (by first | exact Or.inl rfl | exact Or.inr rfl)) pgs_nil))))
  (dss_cons (ds_par 5 6 C (da_cons (dl_lst (da_cons (dl_lst (da_cons de_str (da_cons de_str da_nil))).de (da_cons (de_var 7) da_nil))).de (da_cons (de_tup (da_cons de_int (da_cons (de_var 8) da_nil))) da_nil)) (by decide) rfl rfl rfl rfl (by rfl))
  (dss_one (ds_if (dt_cmp (od_eq C) (de_bin od_mod (de_callTy cd_int2 (by rfl) z_int bt_int (da_cons (de_ix (de_var 1) de_int) da_nil)) de_int) de_int) (dss_one (ds_par 5 6 C (da_cons (dl_lst (da_cons (dl_lst (da_cons de_str (da_cons de_str (da_cons de_str (da_cons (de_ix (de_var 2) de_int) (da_cons de_str da_nil)))))).de da_nil)).de (da_cons (de_tup (da_cons de_int (da_cons de_int da_nil))) da_nil)) (by decide) rfl rfl rfl rfl (by rfl))) dss_nil)))) (dss_one (ds_if (dt_cmp (od_eq C) (de_var 4) de_int) (dss_one (ds_setT (de_call kn__law_wish_case hr (by decide) (by rfl) (da_cons (de_var 2) (da_cons (de_var 3) (da_cons (de_callTy cd_int2 (by rfl) z_int bt_int (da_cons (de_ix (de_var 1) de_int) da_nil)) da_nil)))) (pg_tup C.calm (pgs_cons (pg_name (i := 5) C.nd rfl (by first | exact Or.inl rfl | exact Or.inr rfl)) (pgs_cons (pg_name (i := 6) C.nd rfl (by first | exact Or.inl rfl | exact Or.inr rfl)) pgs_nil))))) (dss_one (ds_setT (de_call kn__law_change_case hr (by decide) (by rfl) (da_cons (de_var 2) (da_cons (de_var 3) (da_cons (de_callTy cd_int2 (by rfl) z_int bt_int (da_cons (de_ix (de_var 1) de_int) da_nil)) da_nil)))) (pg_tup C.calm (pgs_cons (pg_name (i := 5) C.nd rfl (by first | exact Or.inl rfl | exact Or.inr rfl)) (pgs_cons (pg_name (i := 6) C.nd rfl (by first | exact Or.inl rfl | exact Or.inr rfl)) pgs_nil))))))))))
  (dss_kill [7, 8] (dss_cons (ds_if (dw_and (dt_cmp (od_ne C) (de_var 4) de_int) (dw_and (dt_cmp (od_ne C) (de_ix (de_ix (de_var 5) de_int) de_int) de_str) (dw_and1 (dt_cmp (od_eq C) (de_bin od_mod (de_callTy cd_int2 (by rfl) z_int bt_int (da_cons (de_ix (de_var 1) de_int) da_nil)) de_int) de_int)))).dt (dss_cons (ds_set 5 (de_bin od_add (dl_lst (da_cons (de_call kn__law_ahead hr (by decide) (by rfl) (da_cons (de_var 4) (da_cons (de_var 2) (da_cons (de_var 3) da_nil)))) da_nil)).de (de_var 5)) C)
  (dss_one (ds_set 6 (de_tup (da_cons (de_bin od_add (de_ix (de_var 6) de_int) de_int) (da_cons (de_ix (de_var 6) de_int) da_nil))) C))) dss_nil)
  (dss_one (ds_ret (de_and (de_call kn__law_told hr (by decide) (by rfl) (da_cons (de_var 4) (da_cons (de_var 2) (da_cons (de_var 5) (da_cons (de_var 6) da_nil))))) (de_one (de_call kn__law_facts_told hr (by decide) (by rfl) (da_cons (de_var 2) (da_cons (de_var 3) da_nil))))))))))))))
end
theorem q_draws : m__law_draws = Com2.m__law_draws := rfl
theorem q_pool : m__law_pool = Com2.m__law_pool := rfl
abbrev mk (l : List Nat) : Str := ⟨l.toArray⟩
theorem mk_tl (x : Str) : mk x.cps.toList = x := by
  obtain ⟨a⟩ := x
  show (⟨a.toList.toArray⟩ : Str) = ⟨a⟩
  rw [Array.toArray_toList]
theorem mk_map (ls : List Str) : (ls.map fun l => l.cps.toList).map mk = ls := by
  rw [List.map_map]
  have e : (mk ∘ fun l : Str => l.cps.toList) = id := funext mk_tl
  rw [e, List.map_id]
theorem sp_eq : ((" " : Str)) = mk [32] := by decide +kernel
theorem nl_eq : (("\n" : Str)) = mk [10] := by decide +kernel
theorem spl_id : ∀ l : List (List Nat), l.map (TL.tl ∘ mk) = l := fun l => by
  have f : TL.tl ∘ mk = id := by
    funext z
    rfl
  rw [f, List.map_id]
theorem split_is (x : Str) : Txt.split x " " = (TL.spl [32] 0 [] x.cps.toList).map mk := by
  refine TL.map_tl_inj ?_
  rw [sp_eq, TL.split_spl x (mk [32]) (by simp [TL.tl, mk]) (TL.kind_ok (by decide +kernel)), List.map_map, spl_id]
theorem splitn_is (x : Str) : Txt.split x "\n" = (TL.spl [10] 0 [] x.cps.toList).map mk := by
  refine TL.map_tl_inj ?_
  rw [nl_eq, TL.split_spl x (mk [10]) (by simp [TL.tl, mk]) (TL.kind_ok (by decide +kernel)), List.map_map, spl_id]
theorem sp_l : (" " : Str).cps.toList = [32] := by decide +kernel
theorem nl_l : ("\n" : Str).cps.toList = [10] := by decide +kernel
theorem nl1 : ("\n" : Str).length = 1 := by decide +kernel
theorem part1 {c : Nat} {p rest : List Nat} (h : c ∉ p) : TL.spl [c] 0 [] (p ++ ([c] ++ rest)) = p :: TL.spl [c] 0 [] rest := TL.spl_part1 (S := []) h
theorem last1 {c : Nat} {p : List Nat} (h : c ∉ p) : TL.spl [c] 0 [] p = [p] := TL.spl_last1 (S := []) h
theorem join_l : ∀ ws : List Str, (Str.join "" ws).cps.toList = (ws.map fun w => w.cps.toList).flatten
  | [] => rfl
  | [w] => by
    show w.cps.toList = [w.cps.toList].flatten
    simp
  | w :: v :: r => by
    show (w ++ ("" : Str) ++ Str.join "" (v :: r)).cps.toList = _
    have e : ("" : Str).cps.toList = [] := by decide +kernel
    rw [tl_app, tl_app, e, List.append_nil, join_l (v :: r)]
    rfl
theorem joinE (ws : List Str) (h : (ws.map (·.length)).sum ≤ 90000) : joinD "" (.list (ws.map .str)) = .ok (.str (Str.join "" ws)) := by
  show joinS "" (ws.map .str) = _
  unfold joinS
  rw [Pyr.strs_map]
  show (if (ws.map (·.length)).sum + ws.length * ("" : Str).length ≤ LIM then Res.ok (PyData.str (Txt.join "" ws)) else .bad) = _
  have e : ("" : Str).length = 0 := by decide +kernel
  rw [if_pos (by rw [e, Nat.mul_zero]; show _ ≤ 100000; omega), TL.join_eq]
/-! ### a text of lines -/
def lnS (l : Str) : Str := l ++ "\n"
def textL (ls : List Str) : Str := Str.join "" (ls.map lnS)
theorem ln_l (l : Str) : (lnS l).cps.toList = l.cps.toList ++ [10] := by
  unfold lnS
  rw [tl_app, nl_l]
theorem ln_len (l : Str) : (lnS l).length = l.length + 1 := by rw [tl_len, ln_l, List.length_append, tl_len]; rfl
theorem text_nil : (textL []).cps.toList = [] := by
  unfold textL
  rw [join_l]
  rfl
theorem text_l (l : Str) (ls : List Str) : (textL (l :: ls)).cps.toList = l.cps.toList ++ ([10] ++ (textL ls).cps.toList) := by
  unfold textL
  rw [join_l, join_l, List.map_cons, List.map_cons, List.flatten_cons, ln_l, List.append_assoc]
theorem split_text : ∀ ls : List Str, (∀ l ∈ ls, 10 ∉ l.cps.toList) → TL.spl [10] 0 [] (textL ls).cps.toList = (ls.map fun l => l.cps.toList) ++ [[]]
  | [], _ => by
    rw [text_nil]
    exact last1 (by simp)
  | l :: ls, h => by
    rw [text_l, part1 (h l List.mem_cons_self), split_text ls fun z hz => h z (List.mem_cons_of_mem _ hz)]
    rfl
theorem split_textL (ls : List Str) (h : ∀ l ∈ ls, 10 ∉ l.cps.toList) : Txt.split (textL ls) "\n" = ls ++ [("" : Str)] := by
  rw [splitn_is, split_text ls h, List.map_append, mk_map]
  rfl
theorem text_len (n : Nat) : ∀ ls : List Str, (∀ l ∈ ls, l.length ≤ n) → (textL ls).length ≤ (n + 1) * ls.length
  | [], _ => by rw [tl_len, text_nil]; exact Nat.zero_le _
  | l :: ls, h => by
    have a := text_len n ls fun z hz => h z (List.mem_cons_of_mem _ hz)
    have b := h l List.mem_cons_self
    rw [tl_len] at a b ⊢
    rw [text_l, List.length_append, List.length_append, List.length_cons, List.length_cons, List.length_nil, Nat.mul_succ]
    omega
theorem text_app : ∀ a b : List Str, (textL (a ++ b)).cps.toList = (textL a).cps.toList ++ (textL b).cps.toList
  | [], b => by rw [List.nil_append, text_nil, List.nil_append]
  | x :: a, b => by rw [List.cons_append, text_l, text_l, text_app a b]; simp only [List.append_assoc]
theorem at_lastG {α : Type} (en : α → Pyr.D) (xs : List α) (x : α) : atD (.list ((xs ++ [x]).map en)) (.int (-1)) = .ok (en x) := by
  have hl : ((xs ++ [x]).map en).length = xs.length + 1 := by rw [List.length_map, List.length_append, List.length_singleton]
  have e : ixN ((xs ++ [x]).map en).length (-1) = some xs.length := by
    unfold ixN
    rw [hl]
    simp
    omega
  show (match atI ((xs ++ [x]).map en) (-1) with
    | some d => Res.ok d
    | none => .bad) = _
  unfold atI
  rw [e]
  simp
theorem cut_lastG {α : Type} (xs : List α) : cutG xs none (some (-1)) = xs.take (xs.length - 1) := by
  unfold cutG
  have h : HT.sIx xs.length xs.length (some (-1)) = xs.length - 1 := by
    show (if (-1 : Int) < 0 then ((-1 : Int) + ((xs.length : Nat) : Int)).toNat else min (-1 : Int).toNat xs.length) = _
    rw [if_pos (by decide)]
    omega
  rw [h, HT.sIx_none, List.drop_zero, Nat.sub_zero]
structure LsOk (ls : List Str) : Prop where
  few : ls.length ≤ 20
  nl : ∀ l ∈ ls, 10 ∉ l.cps.toList
  short : ∀ l ∈ ls, l.length ≤ 200
theorem LsOk.tl {l : Str} {ls : List Str} (h : LsOk (l :: ls)) : LsOk ls := ⟨by have := h.few; rw [List.length_cons] at this; omega, fun z hz => h.nl z (List.mem_cons_of_mem _ hz), fun z hz => h.short z (List.mem_cons_of_mem _ hz)⟩
theorem LsOk.len {ls : List Str} (h : LsOk ls) : (textL ls).length ≤ 4020 := by
  have := text_len 200 ls h.short
  have := h.few
  omega
theorem lines_run (ls : List Str) (h : LsOk ls) : m_lines_of [.str (textL ls)] = .ok (ls.map .str) := by
  have hx : (textL ls).length + 2 ≤ LIM := by have := h.len; show _ ≤ 100000; omega
  generalize hL : ((ls ++ [("" : Str)]).map PyData.str) = L
  have s1 : sSet 1 (eL (lSplit (eVar 0) (eC (.str "\n")))) [.val (.str (textL ls)), .emp, .emp] = .ok (.next [.val (.str (textL ls)), .val (.list L), .emp]) := by
    refine set_ok ?_
    show ((if ("\n" : Str).length ≠ 0 ∧ (textL ls).length + 2 ≤ LIM then Res.ok ((Txt.split (textL ls) "\n").map PyData.str) else .bad).map PyData.list) = _
    rw [if_pos ⟨by rw [nl1]; decide, hx⟩, split_textL ls h.nl, hL]
    rfl
  have hat : atD (.list L) (.int (-1)) = .ok (.str "") := by
    rw [← hL]
    exact at_lastG PyData.str ls ""
  have hE : eqD (.str "") (.str "") = .ok (.bool true) := by kernel_rfl
  have hcut : sliceD (.list L) none (some (-1)) = .ok (.list (ls.map .str)) := by
    show Res.ok (PyData.list (cutG L none (some (-1)))) = _
    rw [cut_lastG, ← hL, List.map_append, List.length_append]
    show Res.ok (PyData.list (List.take (ls.map PyData.str).length _)) = _
    rw [List.take_left]
  have s2 : sIf (tE boolD (e2 eqD (e2 atD (eVar 1) (e1 negD (eC (.int 1)))) (eC (.str "")))) (sSet 1 (eSlice (eVar 1) oNone (oSome (e1 negD (eC (.int 1)))))) sNext [.val (.str (textL ls)), .val (.list L), .emp] = .ok (.next [.val (.str (textL ls)), .val (.list (ls.map .str)), .emp]) := by
    have ht : (tE boolD (e2 eqD (e2 atD (eVar 1) (e1 negD (eC (.int 1)))) (eC (.str "")))) (frzE [.val (.str (textL ls)), .val (.list L), .emp]) = .ok true := by
      show (((atD (.list L) (.int (-1))).bind fun x => eqD x (.str "")).bind boolD) = _
      rw [hat]
      show ((eqD (.str "") (.str "")).bind boolD) = _
      rw [hE]
      rfl
    rw [if_ok (b := true) ht, if_pos rfl]
    refine set_ok ?_
    show sliceD (.list L) none (some (-1)) = _
    exact hcut
  have s3 : gFor 2 (iF walkD (eVar 1)) [.val (.str (textL ls)), .val (.list (ls.map .str)), .emp] = .ok (ls.map .str) := by
    show (if 2 < 3 then okL (ls.map PyData.str).length (.ok (ls.map PyData.str)) else .bad) = _
    rw [if_pos (by decide), okL_ok (by rw [List.length_map]; have := h.few; show ls.length ≤ 100000; omega)]
  rw [u_lines_of]
  show F_lines_of [.val (.str (textL ls)), .emp, .emp] = _
  unfold F_lines_of
  show (match sSet 1 (eL (lSplit (eVar 0) (eC (.str "\n")))) [.val (.str (textL ls)), .emp, .emp] with
    | .ok (.next ρ') => gSeq _ _ ρ'
    | _ => .bad) = _
  rw [s1]
  show (match sIf _ _ _ [.val (.str (textL ls)), .val (.list L), .emp] with
    | .ok (.next ρ') => gFor 2 _ ρ'
    | _ => .bad) = _
  rw [s2]
  exact s3
/-! ### words -/
abbrev tpl (c : Int) (w : Str) : Pyr.D := .tuple [.int c, .str w]
def tups : Int → List Str → List Pyr.D
  | _, [] => []
  | c, y :: ys => tpl c y :: tups (c + (y.length + 1)) ys
theorem words_loop (a : Sl) : ∀ (ys : List Str) (acc : List Pyr.D) (c : Int), acc.length + ys.length ≤ LIM → (∀ y ∈ ys, y.length ≤ LIM) →
    ∃ c', forF (Tg.nm 3) B_words_of_0 (ys.map .str) [a, .own (.lst acc), .val (.int c), .emp] = .ok (.next [a, .own (.lst (acc ++ tups c ys)), .val (.int c'), .emp])
  | [], acc, c, _, _ => ⟨c, by rw [show tups c [] = [] from rfl, List.append_nil]; rfl⟩
  | y :: ys, acc, c, h, hy => by
    have b : B_words_of_0 [a, .own (.lst acc), .val (.int c), .val (.str y)] = .ok (.next [a, .own (.lst (acc ++ [tpl c y])), .val (.int (c + (y.length + 1))), .emp]) := by
      unfold B_words_of_0
      rw [seq_ok (app_ok (ds := acc) (d := tpl c y) rfl rfl (by rw [List.length_cons] at h; omega))]
      rw [seq_ok (ρ' := [a, .own (.lst (acc ++ [tpl c y])), .val (.int (c + (y.length + 1))), .val (.str y)]) (by
        show (evP _ _).bind _ = _
        rw [evP_ok (d := .int (y.length + 1))]
        · rfl
        · show ((okL y.length (Res.ok (PyData.int y.length))).bind fun x => addD x (.int 1)) = _
          rw [okL_ok (hy y List.mem_cons_self)]
          rfl)]
      rfl
    obtain ⟨c', ih⟩ := words_loop a ys (acc ++ [tpl c y]) (c + (y.length + 1)) (by rw [List.length_append]; simp only [List.length_cons, List.length_nil] at h ⊢; omega) fun z hz => hy z (List.mem_cons_of_mem _ hz)
    refine ⟨c', ?_⟩
    show (B_words_of_0 [a, .own (.lst acc), .val (.int c), .val (.str y)]).bind _ = _
    rw [b]
    show forF (Tg.nm 3) B_words_of_0 (ys.map .str) _ = _
    rw [ih, List.append_assoc]
    rfl
theorem words_run (x : Str) (ys : List Str) (e : Txt.split x " " = ys) (hx : x.length + 2 ≤ LIM) (hl : ys.length ≤ 1000) (hy : ∀ y ∈ ys, y.length ≤ LIM) : m_words_of [.str x] = .ok (.own (tups 1 ys)) := by
  rw [u_words_of, defM_eq (np := 1) rfl]
  show outR (F_words_of [.val (.str x), .emp, .emp, .emp]) = _
  unfold F_words_of
  rw [seq_ok (setL_ok (d := []) rfl)]
  unfold T_words_of_1
  rw [seq_ok (set_ok (d := .int 1) rfl)]
  unfold T_words_of_2
  show outR (sSeq (sFor _ _ B_words_of_0) _ [.val (.str x), .own (.lst []), .val (.int 1), .emp]) = _
  obtain ⟨c', h⟩ := words_loop (.val (.str x)) ys [] 1 (by rw [List.length_nil]; show _ ≤ 100000; omega) hy
  rw [seq_ok ((for_ok (ds := ys.map .str) ?_).trans h)]
  · rfl
  · show ((if ((" " : Str).length ≠ 0 ∧ x.length + 2 ≤ LIM) then Res.ok ((Txt.split x " ").map PyData.str) else .bad).map PyData.list).bind walkD = _
    rw [if_pos ⟨by decide +kernel, hx⟩, e]
    rfl
theorem split_sh (x : Str) (h : x.length ≤ 200) : ∀ y ∈ Txt.split x " ", y.length ≤ LIM := fun y hy => by
  have := part_short hy
  show _ ≤ 100000
  omega
theorem kind_other (w k : Str) (h1 : (k = "NAME") ↔ False) (h2 : (k = "NUMBER") ↔ False) (h3 : (k = "TERM") ↔ False) : m__is_of_kind [.str w, .str k] = .ok (.val (.bool (decide (w = k)))) := by
  rw [u__is_of_kind, defM_eq (np := 2) rfl]
  show outR (F__is_of_kind [.val (.str w), .val (.str k)]) = _
  unfold F__is_of_kind
  dsimp! [eL, h1, h2, h3, T__is_of_kind_1, T__is_of_kind_2, T__is_of_kind_3]
open Com2 Com3
abbrev lets : Str := "abcdefghijklmnopqrstuvwxyz0123456789"
theorem lets_is : lets.cps.toList = [97, 98, 99, 100, 101, 102, 103, 104, 105, 106, 107, 108, 109, 110, 111, 112, 113, 114, 115, 116, 117, 118, 119, 120, 121, 122, 48, 49, 50, 51, 52, 53, 54, 55, 56, 57] := by decide +kernel
def inL (c : Nat) : Bool := decide (c ∈ lets.cps.toList)
def inR (c : Nat) : Bool := (decide (97 ≤ c) && decide (c ≤ 122)) || (decide (48 ≤ c) && decide (c ≤ 57))
theorem inL_inR (c : Nat) : inL c = inR c := by
  unfold inL inR
  rw [lets_is, Bool.eq_iff_iff]
  simp only [decide_eq_true_eq, List.mem_cons, List.not_mem_nil, or_false, Bool.or_eq_true, Bool.and_eq_true]
  omega
def wordB (x : Str) : Bool := decide (1 ≤ x.length ∧ x.length ≤ 12) && x.cps.toList.all inL
def wD : Pyr.D → Bool
  | .str x => wordB x
  | _ => false
def okT (d : Pyr.D) : Prop := ∀ x, d = .str x → x.length ≤ 100000
theorem is_word_run (d : Pyr.D) (hd : okT d) (hn : ∀ es, d ≠ .dict es) : m_is_word [d] = .ok (.val (.bool (wD d))) := by
  rw [u_is_word]
  rw [defM_eq (np := 1) rfl]
  show outR (F_is_word [.val d, .emp]) = _
  unfold F_is_word
  have other : (∀ x, d ≠ .str x) → outR (sSeq (sIf (tOrR (tNotR (tE truD (e1 (isiD "str") (eVar 0)))) (tNotR (tE boolD (eChain leD leD (eC (.int 1)) (eN (oneD lenD) (aC (eVar 0) a0)) (eC (.int 12)))))) (sRet (eC (.bool false))) sNext) (sRet (eGx true [1] (Tg.nm 1) (iF walkD (eVar 0)) tYesR (e2 inD (eVar 1) (eC (.str "abcdefghijklmnopqrstuvwxyz0123456789"))))) [.val d, .emp]) = .ok (.val (.bool (wD d))) := fun h => by
    cases d with
    | str x => exact absurd rfl (h x)
    | dict es => exact absurd rfl (hn es)
    | _ => rfl
  cases d with
  | str x =>
    have hx := hd x rfl
    have hlen : (eN (oneD lenD) (aC (eVar 0) a0)) [some (.str x), none] = .ok (.int x.length) := (one_ok rfl).trans (len_str hx)
    have hc : (eChain leD leD (eC (.int 1)) (eN (oneD lenD) (aC (eVar 0) a0)) (eC (.int 12))) [some (.str x), none] = .ok (.bool (decide (1 ≤ x.length ∧ x.length ≤ 12))) := by
      unfold eChain
      rw [hlen]
      show (if decide ((1 : Int) ≤ (x.length : Int)) = true then Res.ok (PyData.bool (decide ((x.length : Int) ≤ 12))) else .ok (.bool false)) = _
      by_cases h1 : 1 ≤ x.length
      · rw [if_pos (decide_eq_true (by omega))]
        congr 2
        rw [decide_eq_decide]
        omega
      · rw [if_neg (by rw [decide_eq_true_eq]; omega), decide_eq_false (by omega)]
    have ht : (tOrR (tNotR (tE truD (e1 (isiD "str") (eVar 0)))) (tNotR (tE boolD (eChain leD leD (eC (.int 1)) (eN (oneD lenD) (aC (eVar 0) a0)) (eC (.int 12)))))) [some (.str x), none] = .ok (!decide (1 ≤ x.length ∧ x.length ≤ 12)) :=
      (or_ok (a := false) (b := !decide (1 ≤ x.length ∧ x.length ≤ 12)) rfl fun _ => not_ok ((tE_ok hc).trans rfl)).trans (by rw [Bool.false_or])
    by_cases q : 1 ≤ x.length ∧ x.length ≤ 12
    · rw [decide_eq_true q] at ht
      rw [seq_ok ((if_ok ht).trans rfl), ret_ok (d := .bool (x.cps.toList.all inL))]
      · show Res.ok (RV.val (PyData.bool (x.cps.toList.all inL))) = Res.ok (RV.val (.bool (decide (1 ≤ x.length ∧ x.length ≤ 12) && x.cps.toList.all inL)))
        rw [decide_eq_true q, Bool.true_and]
      · show gxF true (Tg.nm 1) tYesR (e2 inD (eVar 1) (eC (.str lets))) [some (.str x), none] (signsD x) = _
        exact gx_signs (i := 1) x _ (fun _ => rfl) fun c => rfl
    · rw [decide_eq_false q] at ht
      rw [seq_ret ((if_ok ht).trans rfl)]
      show Res.ok (RV.val (PyData.bool false)) = Res.ok (RV.val (.bool (decide (1 ≤ x.length ∧ x.length ≤ 12) && x.cps.toList.all inL)))
      rw [decide_eq_false q, Bool.false_and]
  | _ => exact other fun x h => by cases h
theorem lets_eq : lets = Com2.lets := rfl
abbrev dg (j : Nat) : Str := mk [48 + j]
theorem dig_str : ∀ j : Nat, j < 8 → (j : Int).natAbs.log2 < 1920 ∧ Str.ofString (toString (j : Int)) = mk [48 + j] := by decide +kernel
theorem dg_fmt {j : Nat} (hj : j < 8) : fmtD (.int (j : Int)) = .ok (.str (dg j)) := by
  unfold fmtD
  obtain ⟨h1, h2⟩ := dig_str j hj
  simp only [h1, if_true, h2]
theorem dg_str {j : Nat} (hj : j < 8) : strD (.int (j : Int)) = .ok (.str (dg j)) := by
  unfold strD
  obtain ⟨h1, h2⟩ := dig_str j hj
  simp only [h1, if_true, h2]
theorem wd_wordB {x : Str} (h : Com2.Wd x) : wordB x = true := by
  unfold wordB
  rw [decide_eq_true ⟨h.1, h.2.1⟩, Bool.true_and]
  exact List.all_eq_true.mpr fun c hc => decide_eq_true (by rw [lets_eq]; exact h.2.2 c hc)
theorem wd_run {x : Str} (h : Com2.Wd x) : m_is_word [.str x] = .ok (.val (.bool true)) := by
  rw [is_word_run (.str x) (fun y e => by cases e; exact Nat.le_trans h.2.1 (by decide)) (fun es e => by cases e)]
  show Res.ok (RV.val (.bool (wordB x))) = _
  rw [wd_wordB h]
theorem kind_name (x : Str) (h : Com2.Wd x) : m__is_of_kind [.str x, .str "NAME"] = .ok (.val (.bool true)) := by
  have hw := wd_run h
  rw [u__is_of_kind, defM_eq (np := 2) rfl]
  show outR (F__is_of_kind [.val (.str x), .val (.str "NAME")]) = _
  unfold F__is_of_kind
  dsimp! [eL, hw]
theorem num_run : ∀ j : Nat, j < 8 → m_read_number [.str (dg j)] = .ok (.val (.int j)) := by
  intro j hj
  rw [u_read_number, defM_eq (np := 1) rfl]
  match j, hj with
  | 0, _ => kernel_rfl
  | 1, _ => kernel_rfl
  | 2, _ => kernel_rfl
  | 3, _ => kernel_rfl
  | 4, _ => kernel_rfl
  | 5, _ => kernel_rfl
  | 6, _ => kernel_rfl
  | 7, _ => kernel_rfl
theorem kind_num (j : Nat) (hj : j < 8) : m__is_of_kind [.str (dg j), .str "NUMBER"] = .ok (.val (.bool true)) := by
  have hw := num_run j hj
  have h1 : (("NUMBER" : Str) = "NAME") ↔ False := by decide +kernel
  have h2 : notBD (.int (j : Int)) .none = .ok (.bool true) := rfl
  rw [u__is_of_kind, defM_eq (np := 2) rfl]
  show outR (F__is_of_kind [.val (.str (dg j)), .val (.str "NUMBER")]) = _
  unfold F__is_of_kind
  dsimp! [eL, hw, h1, h2, T__is_of_kind_1]
theorem sb_hit (C : Pyr.D) (k s w : Str) (h : m__is_of_kind [.str w, .str k] = .ok (.val (.bool true))) : B__state_behind_0 [.val C, .val (.str w), .val (.str k), .val (.str s)] = .ok (.ret (.val (.str s))) := by
  unfold B__state_behind_0
  dsimp! [eL, h]
theorem sb_miss (C : Pyr.D) (k s w : Str) (h : m__is_of_kind [.str w, .str k] = .ok (.val (.bool false))) : B__state_behind_0 [.val C, .val (.str w), .val (.str k), .val (.str s)] = .ok (.next [.val C, .val (.str w), .emp, .emp]) := by
  unfold B__state_behind_0
  dsimp! [eL, h]
theorem sb1 (k s w : Str) (rest : List Pyr.D) (h : m__is_of_kind [.str w, .str k] = .ok (.val (.bool true))) : m__state_behind [.tuple (.tuple [.str k, .str s] :: rest), .str w] = .ok (.val (.str s)) := by
  rw [u__state_behind, defM_eq (np := 2) rfl]
  show outR (F__state_behind [.val (.tuple (.tuple [.str k, .str s] :: rest)), .val (.str w), .emp, .emp]) = _
  unfold F__state_behind
  show outR (sSeq (sFor _ _ B__state_behind_0) _ [.val (.tuple (.tuple [.str k, .str s] :: rest)), .val (.str w), .emp, .emp]) = _
  rw [seq_ret ((for_ok (ds := .tuple [.str k, .str s] :: rest) rfl).trans (forF_ret rfl (sb_hit _ k s w h)))]
  rfl
theorem sb2 (k s k2 s2 w : Str) (rest : List Pyr.D) (h : m__is_of_kind [.str w, .str k] = .ok (.val (.bool false))) (h2 : m__is_of_kind [.str w, .str k2] = .ok (.val (.bool true))) : m__state_behind [.tuple (.tuple [.str k, .str s] :: .tuple [.str k2, .str s2] :: rest), .str w] = .ok (.val (.str s2)) := by
  rw [u__state_behind, defM_eq (np := 2) rfl]
  show outR (F__state_behind [.val (.tuple (.tuple [.str k, .str s] :: .tuple [.str k2, .str s2] :: rest)), .val (.str w), .emp, .emp]) = _
  unfold F__state_behind
  show outR (sSeq (sFor _ _ B__state_behind_0) _ [.val (.tuple (.tuple [.str k, .str s] :: .tuple [.str k2, .str s2] :: rest)), .val (.str w), .emp, .emp]) = _
  rw [seq_ret ((for_ok (ds := .tuple [.str k, .str s] :: .tuple [.str k2, .str s2] :: rest) rfl).trans ((forF_next rfl (sb_miss _ k s w h)).trans (forF_ret rfl (sb_hit _ k2 s2 w h2))))]
  rfl
theorem ends_nl (x : Str) (A : List Nat) (h : x.cps.toList = A ++ [10]) : Txt.endswith x "\n" = true := by
  have hl : x.length = A.length + 1 := by rw [tl_len, h, List.length_append]; rfl
  unfold Txt.endswith
  rw [nl1, hl, StrLaws.subAt_eq, h, nl_l, nl1]
  rw [show A.length + 1 - 1 = A.length by omega, List.drop_left, decide_eq_true (by omega)]
  rfl
theorem sb3 (k s k2 s2 k3 s3 w : Str) (rest : List Pyr.D) (h : m__is_of_kind [.str w, .str k] = .ok (.val (.bool false))) (h2 : m__is_of_kind [.str w, .str k2] = .ok (.val (.bool false))) (h3 : m__is_of_kind [.str w, .str k3] = .ok (.val (.bool true))) : m__state_behind [.tuple (.tuple [.str k, .str s] :: .tuple [.str k2, .str s2] :: .tuple [.str k3, .str s3] :: rest), .str w] = .ok (.val (.str s3)) := by
  rw [u__state_behind, defM_eq (np := 2) rfl]
  show outR (F__state_behind [.val (.tuple (.tuple [.str k, .str s] :: .tuple [.str k2, .str s2] :: .tuple [.str k3, .str s3] :: rest)), .val (.str w), .emp, .emp]) = _
  unfold F__state_behind
  show outR (sSeq (sFor _ _ B__state_behind_0) _ [.val (.tuple (.tuple [.str k, .str s] :: .tuple [.str k2, .str s2] :: .tuple [.str k3, .str s3] :: rest)), .val (.str w), .emp, .emp]) = _
  rw [seq_ret ((for_ok (ds := .tuple [.str k, .str s] :: .tuple [.str k2, .str s2] :: .tuple [.str k3, .str s3] :: rest) rfl).trans ((forF_next rfl (sb_miss _ k s w h)).trans ((forF_next rfl (sb_miss _ k2 s2 w h2)).trans (forF_ret rfl (sb_hit _ k3 s3 w h3)))))]
  rfl
/-! ### the walk through a line, through the lines -/
def Step (T : Pyr.D) (s w s' : Str) : Prop := ∃ C, dAtD T (.str s) = .ok C ∧ m__state_behind [C, .str w] = .ok (.val (.str s'))
inductive Path (T : Pyr.D) : Str → List Str → Str → Prop
  | nil {s : Str} : Path T s [] s
  | cons {s w s1 s2 : Str} {ws : List Str} : Step T s w s1 → Path T s1 ws s2 → Path T s (w :: ws) s2
inductive Lines (T : Pyr.D) : Str → List Str → Str → Prop
  | nil {s : Str} : Lines T s [] s
  | cons {s l s1 s2 s3 : Str} {ls : List Str} : Path T s (Txt.split l " ") s1 → Step T s1 "\n" s2 → Lines T s2 ls s3 → Lines T s (l :: ls) s3
theorem Path.app {T : Pyr.D} {s1 s2 s3 : Str} {a b : List Str} (h : Path T s1 a s2) (h2 : Path T s2 b s3) : Path T s1 (a ++ b) s3 := by
  induction h with
  | nil => exact h2
  | cons st _ ih => exact .cons st (ih h2)
theorem Lines.app {T : Pyr.D} {s1 s2 s3 : Str} {a b : List Str} (h : Lines T s1 a s2) (h2 : Lines T s2 b s3) : Lines T s1 (a ++ b) s3 := by
  induction h with
  | nil => exact h2
  | cons p st _ ih => exact .cons p st (ih h2)
theorem text_end : ∀ (l : Str) (r : List Str), ∃ A, (textL (l :: r)).cps.toList = A ++ [10]
  | l, [] => ⟨l.cps.toList, by rw [text_l, text_nil]; rfl⟩
  | l, u :: r => by
    obtain ⟨A, e⟩ := text_end u r
    exact ⟨l.cps.toList ++ ([10] ++ A), by rw [text_l, e]; simp only [List.append_assoc]⟩
section
variable {T : Pyr.D} (hT : isLo T = false)
def rF (T : Pyr.D) (X : Str) (L : List Pyr.D) (s : Str) (i : Int) (l : Str) : Frm := [.val (.str X), .val T, .val (.list L), .val (.str s), .val (.int i), .val (.str l), .emp, .emp, .emp]
include hT
theorem in_turn (X l s w s' : Str) (L : List Pyr.D) (i c : Int) (h : Step T s w s') :
    B__read_lines_1 [.val (.str X), .val T, .val (.list L), .val (.str s), .val (.int i), .val (.str l), .emp, .val (.int c), .val (.str w)] = .ok (.next (rF T X L s' i l)) := by
  obtain ⟨C, h1, h2⟩ := h
  have v1 : ∀ a b c d e f g h : Option Pyr.D, eVar 1 [a, some T, b, c, d, e, f, g, h] = .ok T := fun _ _ _ _ _ _ _ _ => by
    show (if isLo T then Res.bad else .ok T) = _
    rw [hT]
    rfl
  have hn : isBD (.str s') .none = .ok (.bool false) := rfl
  unfold B__read_lines_1
  dsimp! [eL, v1, h1, h2, hn, rF]
theorem inner (X l : Str) (L : List Pyr.D) (i : Int) : ∀ (ws : List Str) (s s' : Str) (c : Int), Path T s ws s' → forF (Tg.tp [7, 8]) B__read_lines_1 (tups c ws) (rF T X L s i l) = .ok (.next (rF T X L s' i l))
  | [], _, _, _, h => by
    cases h
    rfl
  | w :: ws, s, s', c, h => by
    cases h with
    | cons st p => exact (forF_next rfl (in_turn hT X l _ _ _ L i c st)).trans (inner X l L i ws _ _ _ p)
theorem out_turn (X : Str) (hX : Txt.endswith X "\n" = true) (L : List Pyr.D) (hL : L.length ≤ 100) (i : Nat) (l s s1 s' : Str) (hl : l.length ≤ 190) (hp : Path T s (Txt.split l " ") s1) (hs : Step T s1 "\n" s') :
    B__read_lines_0 [.val (.str X), .val T, .val (.list L), .val (.str s), .val (.int i), .val (.str l), .emp, .emp, .emp] = .ok (.next [.val (.str X), .val T, .val (.list L), .val (.str s'), .emp, .emp, .emp, .emp, .emp]) := by
  have hw := words_run l _ rfl (by show _ ≤ 100000; omega) (by
    have := split_le l " "
    omega) (split_sh l (by omega))
  obtain ⟨C, c1, c2⟩ := hs
  have hin := inner hT X l L i _ s s1 1 hp
  unfold B__read_lines_0
  show sSeq _ _ (rF T X L s i l) = _
  rw [seq_ok ((for_ok (ds := tups 1 (Txt.split l " ")) (by
    show (((m_words_of [.str l]).map RV.d).bind walkD) = _
    rw [hw]
    rfl)).trans hin)]
  show sSeq _ _ (rF T X L s1 i l) = _
  rw [seq_ok (ρ' := rF T X L s' i l) (set_ok (by
    have v1 : eVar 1 (purE (rF T X L s1 i l)) = .ok T := by
      show (if isLo T then Res.bad else .ok T) = _
      rw [hT]
      rfl
    show (((((eVar 1 (purE (rF T X L s1 i l))).bind fun x => (Res.ok (PyData.str s1)).bind fun y => dAtD x y)).bind fun x => Res.ok [x, .str "\n"]).bind fun ds => (m__state_behind ds).map RV.d) = _
    rw [v1]
    show (((dAtD T (.str s1)).bind fun x => Res.ok [x, .str "\n"]).bind fun ds => (m__state_behind ds).map RV.d) = _
    rw [c1]
    show ((m__state_behind [C, .str "\n"]).map RV.d) = _
    rw [c2]
    rfl))]
  have he : eEnds (eVar 0) (eC (.str "\n")) (purE (rF T X L s' i l)) = .ok (.bool true) := by
    show Res.ok (PyData.bool (Txt.endswith X "\n")) = _
    rw [hX]
  have hq : (eAnd (e2 eqD (e2 addD (eVar 4) (eC (.int 1))) (eN (oneD lenD) (aC (eVar 2) a0))) (eNot (eEnds (eVar 0) (eC (.str "\n"))))) (purE (rF T X L s' i l)) = .ok (.bool false) := by
    have hn : eNot (eEnds (eVar 0) (eC (.str "\n"))) (purE (rF T X L s' i l)) = .ok (.bool false) := by
      unfold eNot
      rw [he]
      rfl
    have h1 : (e2 eqD (e2 addD (eVar 4) (eC (.int 1))) (eN (oneD lenD) (aC (eVar 2) a0))) (purE (rF T X L s' i l)) = .ok (.bool (PyData.eqv (.int ((i : Int) + 1)) (.int (L.length : Int)))) := rfl
    unfold eAnd
    rw [h1]
    show (if PyData.eqv (.int ((i : Int) + 1)) (.int (L.length : Int)) then eNot (eEnds (eVar 0) (eC (.str "\n"))) (purE (rF T X L s' i l)) else .ok (.bool false)) = _
    rw [hn]
    split <;> rfl
  rw [seq_ok (set_ok hq)]
  rfl
def oF (T : Pyr.D) (X : Str) (L : List Pyr.D) (s : Str) : Frm := [.val (.str X), .val T, .val (.list L), .val (.str s), .emp, .emp, .emp, .emp, .emp]
theorem out_loop (X : Str) (hX : Txt.endswith X "\n" = true) (L : List Pyr.D) (hL : L.length ≤ 100) : ∀ (ls : List Str) (i : Nat) (s s' : Str), (∀ l ∈ ls, l.length ≤ 190) → Lines T s ls s' → forF (Tg.tp [4, 5]) B__read_lines_0 (enumL i (ls.map .str)) (oF T X L s) = .ok (.next (oF T X L s'))
  | [], _, _, _, _, h => by
    cases h
    rfl
  | l :: ls, i, s, s', hl, h => by
    cases h with
    | cons p st r => exact (forF_next (ρ1 := [.val (.str X), .val T, .val (.list L), .val (.str s), .val (.int i), .val (.str l), .emp, .emp, .emp]) rfl (out_turn hT X hX L hL i l s _ _ (hl l List.mem_cons_self) p st)).trans (out_loop X hX L hL ls (i + 1) _ _ (fun z hz => hl z (List.mem_cons_of_mem _ hz)) r)
theorem read_lines_run (ls : List Str) (h : LsOk ls) (hl : ∀ l ∈ ls, l.length ≤ 190) (s' : Str) (hp : Lines T "line" ls s') : m__read_lines [.str (textL ls), T] = .ok (.own (ls.map fun l => .list ((Txt.split l " ").map .str))) := by
  have hlr := lines_run ls h
  have hlo : forF (Tg.tp [4, 5]) B__read_lines_0 (enumL 0 (ls.map .str)) (oF T (textL ls) (ls.map .str) "line") = .ok (.next (oF T (textL ls) (ls.map .str) s')) := by
    cases ls with
    | nil =>
      cases hp
      rfl
    | cons l0 r0 =>
      have hX : Txt.endswith (textL (l0 :: r0)) "\n" = true := by
        obtain ⟨A, e⟩ : ∃ A, (textL (l0 :: r0)).cps.toList = A ++ [10] := text_end l0 r0
        exact ends_nl _ A e
      exact out_loop hT _ hX _ (by rw [List.length_map]; have := h.few; omega) _ 0 _ _ hl hp
  rw [u__read_lines, defM_eq (np := 2) rfl]
  show outR (F__read_lines [.val (.str (textL ls)), .val T, .emp, .emp, .emp, .emp, .emp, .emp, .emp]) = _
  unfold F__read_lines
  rw [seq_ok (ρ' := [.val (.str (textL ls)), .val T, .val (.list (ls.map .str)), .emp, .emp, .emp, .emp, .emp, .emp]) (set_ok (by
    show ((if 1 = 1 then (match m_lines_of [.str (textL ls)] with
      | .ok xs => Res.ok xs
      | _ => .bad) else .bad).map PyData.list) = _
    rw [hlr]
    rfl))]
  unfold T__read_lines_1
  rw [seq_ok (ρ' := oF T (textL ls) (ls.map .str) "line") (set_ok rfl)]
  unfold T__read_lines_2
  show outR (sSeq (sFor _ _ B__read_lines_0) T__read_lines_3 (oF T (textL ls) (ls.map .str) "line")) = _
  rw [seq_ok ((for_ok rfl).trans hlo)]
  unfold T__read_lines_3
  have hc : lComp [5] (Tg.nm 5) (iF walkD (eVar 2)) tYesR (eL (lSplit (eVar 5) (eC (.str " ")))) [some (.str (textL ls)), some T, some (.list (ls.map .str)), none, none, none, none, none, none] = .ok (ls.map fun l => .list ((Txt.split l " ").map .str)) := by
    refine lComp_ok (ds := ls.map .str) rfl (by rw [List.length_map]; have := h.few; show ls.length ≤ 100000; omega) (compF_en PyData.str (fun l => .list ((Txt.split l " ").map .str)) ls fun t ht => ⟨[some (.str (textL ls)), some T, some (.list (ls.map .str)), none, none, some (.str t), none, none, none], rfl, rfl, ?_⟩)
    show ((if (" " : Str).length ≠ 0 ∧ t.length + 2 ≤ LIM then Res.ok ((Txt.split t " ").map PyData.str) else .bad).map PyData.list) = _
    have := hl t ht
    rw [if_pos ⟨by decide +kernel, by show _ ≤ 100000; omega⟩]
    rfl
  show outR (sRetL _ [.val (.str (textL ls)), .val T, .val (.list (ls.map .str)), .emp, .emp, .emp, .emp, .emp, .emp]) = _
  unfold sRetL
  show outR ((evL (lComp [5] (Tg.nm 5) (iF walkD (eVar 2)) tYesR (eL (lSplit (eVar 5) (eC (.str " "))))) [.val (.str (textL ls)), .val T, .val (.list (ls.map .str)), .emp, .emp, .emp, .emp, .emp, .emp]).bind _) = _
  unfold evL
  show outR ((match lComp [5] (Tg.nm 5) (iF walkD (eVar 2)) tYesR (eL (lSplit (eVar 5) (eC (.str " ")))) [some (.str (textL ls)), some T, some (.list (ls.map .str)), none, none, none, none, none, none] with
    | .bad => _
    | r => r).bind _) = _
  rw [hc]
  rfl
end
/-! ### words between blanks -/
def lineW (ws : List Str) : Str := Str.join " " ws
theorem lineW_l (ws : List Str) : (lineW ws).cps.toList = TL.joinL [32] (ws.map fun w => w.cps.toList) := by
  have h := TL.tl_join " " ws
  unfold lineW
  have e : TL.tl (" " : Str) = [32] := by decide +kernel
  rw [e] at h
  exact h
structure WOk (w : Str) : Prop where
  sp : 32 ∉ w.cps.toList
  nl : 10 ∉ w.cps.toList
  len : w.length ≤ 12
theorem split_lineW (ws : List Str) (h0 : ws ≠ []) (h : ∀ w ∈ ws, WOk w) : Txt.split (lineW ws) " " = ws := by
  rw [split_is, lineW_l, TL.spl_join (by simpa using h0) (fun p hp => by
    obtain ⟨w, hw, rfl⟩ := List.mem_map.mp hp
    exact (h w hw).sp), mk_map]
theorem joinL_mem {c : Nat} (hc : c ≠ 32) : ∀ ls : List (List Nat), (∀ l ∈ ls, c ∉ l) → c ∉ TL.joinL [32] ls
  | [], _ => by simp [TL.joinL]
  | [l], h => by simpa [TL.joinL] using h l List.mem_cons_self
  | l :: m :: r, h => by
    have ih := joinL_mem hc (m :: r) fun z hz => h z (List.mem_cons_of_mem _ hz)
    have h1 := h l List.mem_cons_self
    show c ∉ l ++ ([32] ++ TL.joinL [32] (m :: r))
    rw [List.mem_append, List.mem_append, List.mem_singleton]
    rintro (z | z | z)
    · exact h1 z
    · exact hc z
    · exact ih z
theorem joinL_len (n : Nat) : ∀ ls : List (List Nat), (∀ l ∈ ls, l.length ≤ n) → (TL.joinL [32] ls).length ≤ (n + 1) * ls.length
  | [], _ => by simp [TL.joinL]
  | [l], h => by
    have := h l List.mem_cons_self
    show l.length ≤ (n + 1) * 1
    omega
  | l :: m :: r, h => by
    have ih := joinL_len n (m :: r) fun z hz => h z (List.mem_cons_of_mem _ hz)
    have h1 := h l List.mem_cons_self
    show (l ++ ([32] ++ TL.joinL [32] (m :: r))).length ≤ _
    rw [List.length_append, List.length_append, List.length_cons (a := l), Nat.mul_succ]
    simp only [List.length_cons, List.length_nil] at ih ⊢
    omega
theorem lineW_nl (ws : List Str) (h : ∀ w ∈ ws, WOk w) : 10 ∉ (lineW ws).cps.toList := by
  rw [lineW_l]
  refine joinL_mem (by decide) _ fun l hl => ?_
  obtain ⟨w, hw, rfl⟩ := List.mem_map.mp hl
  exact (h w hw).nl
theorem lineW_len (ws : List Str) (h : ∀ w ∈ ws, WOk w) : (lineW ws).length ≤ 13 * ws.length := by
  rw [tl_len, lineW_l]
  have := joinL_len 12 (ws.map fun w => w.cps.toList) fun l hl => by
    obtain ⟨w, hw, rfl⟩ := List.mem_map.mp hl
    rw [← tl_len]
    exact (h w hw).len
  rw [List.length_map] at this
  exact this
theorem str_ext {x y : Str} (h : x.cps.toList = y.cps.toList) : x = y := TL.ext_tl h
theorem lineW_one (a : Str) : lineW [a] = a := str_ext (by rw [lineW_l]; rfl)
theorem lineW_cons (a b : Str) (r : List Str) : lineW (a :: b :: r) = a ++ (" " ++ lineW (b :: r)) := str_ext (by
  rw [lineW_l, tl_app, tl_app, sp_l, lineW_l]
  rfl)
theorem lineW_snoc : ∀ (ws : List Str) (a x : Str), lineW (a :: (ws ++ [x])) = lineW (a :: ws) ++ (" " ++ x)
  | [], a, x => by rw [List.nil_append, lineW_cons, lineW_one, lineW_one]
  | b :: ws, a, x => by
    rw [List.cons_append, lineW_cons, lineW_snoc ws b x, lineW_cons]
    exact str_ext (by simp only [tl_app, List.append_assoc])
theorem sum12 : ∀ ws : List Str, (∀ w ∈ ws, WOk w) → (ws.map (·.length)).sum ≤ 12 * ws.length
  | [], _ => Nat.le_refl _
  | w :: ws, h => by
    have := sum12 ws fun z hz => h z (List.mem_cons_of_mem _ hz)
    have := (h w List.mem_cons_self).len
    simp only [List.map_cons, List.sum_cons, List.length_cons]
    omega
theorem joinSp (ws : List Str) (h : ∀ w ∈ ws, WOk w) (hl : ws.length ≤ 1000) : joinS " " (ws.map .str) = .ok (.str (lineW ws)) := by
  unfold joinS
  rw [Pyr.strs_map]
  have e : (" " : Str).length = 1 := by decide +kernel
  have := sum12 ws h
  show (if (ws.map (·.length)).sum + ws.length * (" " : Str).length ≤ LIM then Res.ok (PyData.str (Txt.join " " ws)) else .bad) = _
  rw [if_pos (by rw [e]; show _ ≤ 100000; omega), TL.join_eq]
  rfl
theorem wd_ok {x : Str} (h : Wd x) : WOk x := ⟨fun z => absurd (h.2.2 32 z) (by decide +kernel), fun z => absurd (h.2.2 10 z) (by decide +kernel), h.2.1⟩
theorem lit_ok (x : Str) (h : (decide (32 ∉ x.cps.toList) && decide (10 ∉ x.cps.toList) && decide (x.length ≤ 12)) = true) : WOk x := by
  rw [Bool.and_eq_true, Bool.and_eq_true] at h
  exact ⟨of_decide_eq_true h.1.1, of_decide_eq_true h.1.2, of_decide_eq_true h.2⟩
theorem seq_exc {F1 F2 : Frm → Res Fl} {ρ : Frm} {c : Str} {fs : List (Str × Pyr.D)} (h : F1 ρ = .exc c fs) : sSeq F1 F2 ρ = .exc c fs := by
  unfold sSeq
  rw [h]
  rfl
theorem forF_exc {t : Tg} {F : Frm → Res Fl} {d : Pyr.D} {ds : List Pyr.D} {ρ ρ1 : Frm} {c : Str} {fs : List (Str × Pyr.D)} (h : tgF t d ρ = .ok ρ1) (hb : F ρ1 = .exc c fs) : forF t F (d :: ds) ρ = .exc c fs := by
  unfold forF
  rw [h]
  show (F ρ1).bind _ = _
  rw [hb]
  rfl
abbrev bad (l c : Int) : List (Str × Pyr.D) := [("column", .int c), ("line", .int l)]
def Fail (T : Pyr.D) (s w : Str) : Prop := ∃ C, dAtD T (.str s) = .ok C ∧ m__state_behind [C, .str w] = .ok (.val .none)
def cs : List Str → Nat
  | [] => 0
  | w :: r => w.length + 1 + cs r
def BadL (T : Pyr.D) (s l : Str) (c : Nat) : Prop := (∃ a w b s1, Txt.split l " " = a ++ w :: b ∧ Path T s a s1 ∧ Fail T s1 w ∧ c = 1 + cs a) ∨ ∃ s1, Path T s (Txt.split l " ") s1 ∧ Fail T s1 "\n" ∧ c = l.length + 1
section
variable {T : Pyr.D} (hT : isLo T = false)
include hT
theorem v1T (a b c d e f g h : Option Pyr.D) : eVar 1 [a, some T, b, c, d, e, f, g, h] = .ok T := by
  show (if isLo T then Res.bad else .ok T) = _
  rw [hT]
  rfl
theorem in_fail (X l s w : Str) (L : List Pyr.D) (i c : Int) (h : Fail T s w) :
    B__read_lines_1 [.val (.str X), .val T, .val (.list L), .val (.str s), .val (.int i), .val (.str l), .emp, .val (.int c), .val (.str w)] = .exc "BadText" (bad (i + 1) c) := by
  obtain ⟨C, h1, h2⟩ := h
  unfold B__read_lines_1
  have h3 : sSet 3 (eCall m__state_behind (aC (Pyr.e2 dAtD (eVar 1) (eVar 3)) (aC (eVar 8) Pyr.a0))) [.val (.str X), .val T, .val (.list L), .val (.str s), .val (.int i), .val (.str l), .emp, .val (.int c), .val (.str w)] = .ok (.next [.val (.str X), .val T, .val (.list L), .val .none, .val (.int i), .val (.str l), .emp, .val (.int c), .val (.str w)]) :=
    set_ok (Eq.trans (call_ok (r := .val .none) (xs := [C, .str w]) (aC_ok (Eq.trans (e2_ok (x := T) (y := .str s) (v1T hT _ _ _ _ _ _ _ _) rfl) h1) (aC_ok rfl rfl)) h2) rfl)
  rw [seq_ok h3, seq_exc]
  rfl
theorem inner_fail (X l : Str) (L : List Pyr.D) (i : Int) (w : Str) (b : List Str) : ∀ (a : List Str) (s s1 : Str) (c : Int), Path T s a s1 → Fail T s1 w → forF (Tg.tp [7, 8]) B__read_lines_1 (tups c (a ++ w :: b)) (rF T X L s i l) = .exc "BadText" (bad (i + 1) (c + (cs a : Int)))
  | [], s, s1, c, h, hf => by
    cases h
    refine (forF_exc rfl (in_fail hT X l _ _ L i c hf)).trans ?_
    rw [show c + ((cs [] : Nat) : Int) = c by show c + 0 = c; omega]
  | y :: a, s, s1, c, h, hf => by
    cases h with
    | cons st p =>
      refine (forF_next rfl (in_turn hT X l _ _ _ L i c st)).trans ((inner_fail X l L i w b a _ _ _ p hf).trans ?_)
      rw [show (c + (y.length + 1) + (cs a : Int)) = c + (cs (y :: a) : Int) by show _ = c + ((y.length + 1 + cs a : Nat) : Int); omega]
theorem out_fail (X : Str) (L : List Pyr.D) (i : Nat) (l s : Str) (c : Nat) (hl : l.length ≤ 190) (h : BadL T s l c) :
    B__read_lines_0 [.val (.str X), .val T, .val (.list L), .val (.str s), .val (.int i), .val (.str l), .emp, .emp, .emp] = .exc "BadText" (bad ((i : Int) + 1) (c : Int)) := by
  have hw := words_run l _ rfl (by show _ ≤ 100000; omega) (by
    have := split_le l " "
    omega) (split_sh l (by omega))
  unfold B__read_lines_0
  rcases h with ⟨a, w, b, s1, e, p, hf, hc⟩ | ⟨s1, p, ⟨C, c1, c2⟩, hc⟩
  · have hin := inner_fail hT X l L i w b a s s1 1 p hf
    rw [← e] at hin
    have e2 : (1 : Int) + (cs a : Int) = (c : Int) := by omega
    rw [e2] at hin
    show sSeq _ _ (rF T X L s i l) = _
    rw [seq_exc ((for_ok (ds := tups 1 (Txt.split l " ")) (by
      show (((m_words_of [.str l]).map RV.d).bind walkD) = _
      rw [hw]
      rfl)).trans hin)]
  · have hin := inner hT X l L i _ s s1 1 p
    show sSeq _ _ (rF T X L s i l) = _
    rw [seq_ok ((for_ok (ds := tups 1 (Txt.split l " ")) (by
      show (((m_words_of [.str l]).map RV.d).bind walkD) = _
      rw [hw]
      rfl)).trans hin)]
    show sSeq _ _ (rF T X L s1 i l) = _
    rw [seq_ok (ρ' := [.val (.str X), .val T, .val (.list L), .val .none, .val (.int i), .val (.str l), .emp, .emp, .emp]) (set_ok (Eq.trans (call_ok (r := .val .none) (xs := [C, .str "\n"]) (aC_ok (Eq.trans (e2_ok (x := T) (y := .str s1) (v1T hT _ _ _ _ _ _ _ _) rfl) c1) (aC_ok rfl rfl)) c2) rfl))]
    have hq : ∃ q : Bool, (eAnd (e2 eqD (e2 addD (eVar 4) (eC (.int 1))) (eN (oneD lenD) (aC (eVar 2) Pyr.a0))) (eNot (eEnds (eVar 0) (eC (.str "\n"))))) (purE [.val (.str X), .val T, .val (.list L), .val .none, .val (.int i), .val (.str l), .emp, .emp, .emp]) = .ok (.bool q) := by
      refine ⟨decide (((i : Int) + 1) = (L.length : Int)) && !(Txt.endswith X "\n"), ?_⟩
      have e1 : eNot (eEnds (eVar 0) (eC (.str "\n"))) (purE [.val (.str X), .val T, .val (.list L), .val .none, .val (.int i), .val (.str l), .emp, .emp, .emp]) = .ok (.bool (!(Txt.endswith X "\n"))) := rfl
      have e0 : (e2 eqD (e2 addD (eVar 4) (eC (.int 1))) (eN (oneD lenD) (aC (eVar 2) Pyr.a0))) (purE [.val (.str X), .val T, .val (.list L), .val .none, .val (.int i), .val (.str l), .emp, .emp, .emp]) = .ok (.bool (decide (((i : Int) + 1) = (L.length : Int)))) := Eq.trans (e2_ok (x := .int ((i : Int) + 1)) (y := .int (L.length : Int)) rfl rfl) (eqD_int _ _)
      unfold eAnd
      rw [e0]
      show (if decide (((i : Int) + 1) = (L.length : Int)) then eNot (eEnds (eVar 0) (eC (.str "\n"))) (purE [.val (.str X), .val T, .val (.list L), .val .none, .val (.int i), .val (.str l), .emp, .emp, .emp]) else .ok (.bool false)) = _
      rw [e1]
      cases decide (((i : Int) + 1) = (L.length : Int)) <;> rfl
    obtain ⟨q, hq⟩ := hq
    rw [seq_ok (ρ' := [.val (.str X), .val T, .val (.list L), .val .none, .val (.int i), .val (.str l), .val (.bool q), .emp, .emp]) (set_ok hq)]
    have ht : (tOrR (tE boolD (e2 isBD (eVar 3) (eC .none))) (tE truD (eVar 6))) (frzE [.val (.str X), .val T, .val (.list L), .val .none, .val (.int i), .val (.str l), .val (.bool q), .emp, .emp]) = .ok true := rfl
    rw [seq_exc (c := "BadText") (fs := bad ((i : Int) + 1) (c : Int)) ((if_ok ht).trans ?_)]
    rw [if_pos rfl, hc]
    have hn : (Pyr.e2 addD (eN (oneD lenD) (aC (eVar 5) Pyr.a0)) (eC (.int 1))) (purE [.val (.str X), .val T, .val (.list L), .val .none, .val (.int i), .val (.str l), .val (.bool q), .emp, .emp]) = .ok (.int ((l.length : Int) + 1)) := Eq.trans (e2_ok (x := .int (l.length : Int)) (y := .int 1) (Eq.trans (one_ok (x := .str l) rfl) (okL_ok (by show _ ≤ 100000; omega))) rfl) rfl
    unfold sRaiseF
    rw [aC_ok (x := .int ((i : Int) + 1)) (xs := [.int ((l.length : Int) + 1)]) rfl (aC_ok hn rfl)]
    rfl
theorem loop_fail (X : Str) (L : List Pyr.D) (hL : L.length ≤ 100) (hX : Txt.endswith X "\n" = true) (l : Str) (post : List Str) (c : Nat) : ∀ (pre : List Str) (i : Nat) (s s1 : Str), (∀ z ∈ pre, z.length ≤ 190) → l.length ≤ 190 → Lines T s pre s1 → BadL T s1 l c →
    forF (Tg.tp [4, 5]) B__read_lines_0 (enumL i ((pre ++ l :: post).map .str)) (oF T X L s) = .exc "BadText" (bad (((i + pre.length : Nat) : Int) + 1) (c : Int))
  | [], i, s, s1, _, hl, h, hb => by
    cases h
    exact forF_exc (ρ1 := [.val (.str X), .val T, .val (.list L), .val (.str s), .val (.int i), .val (.str l), .emp, .emp, .emp]) rfl (out_fail hT X L i l s c hl hb)
  | y :: pre, i, s, s1, hp, hl, h, hb => by
    cases h with
    | cons p st r =>
      refine (forF_next (ρ1 := [.val (.str X), .val T, .val (.list L), .val (.str s), .val (.int i), .val (.str y), .emp, .emp, .emp]) rfl (out_turn hT X hX L hL i y s _ _ (hp y List.mem_cons_self) p st)).trans ?_
      refine (loop_fail X L hL hX l post c pre (i + 1) _ _ (fun z hz => hp z (List.mem_cons_of_mem _ hz)) hl r hb).trans ?_
      rw [show i + 1 + pre.length = i + (y :: pre).length by rw [List.length_cons]; omega]
theorem read_lines_fail (pre : List Str) (l : Str) (post : List Str) (s : Str) (c : Nat) (h : LsOk (pre ++ l :: post)) (hl : ∀ z ∈ pre ++ l :: post, z.length ≤ 190) (hp : Lines T "line" pre s) (hb : BadL T s l c) : m__read_lines [.str (textL (pre ++ l :: post)), T] = .exc "BadText" (bad ((pre.length : Int) + 1) (c : Int)) := by
  have hlr := lines_run _ h
  have hX : Txt.endswith (textL (pre ++ l :: post)) "\n" = true := by
    obtain ⟨A, e⟩ : ∃ A, (textL (pre ++ l :: post)).cps.toList = A ++ [10] := by
      cases pre with
      | nil => exact text_end l post
      | cons y pre => exact text_end y (pre ++ l :: post)
    exact ends_nl _ A e
  have hlo := loop_fail hT (textL (pre ++ l :: post)) ((pre ++ l :: post).map .str) (by rw [List.length_map]; have := h.few; omega) hX l post c pre 0 "line" s (fun z hz => hl z (List.mem_append_left _ hz)) (hl l (by simp)) hp hb
  rw [Nat.zero_add] at hlo
  rw [u__read_lines, defM_eq (np := 2) rfl]
  show outR (F__read_lines [.val (.str (textL (pre ++ l :: post))), .val T, .emp, .emp, .emp, .emp, .emp, .emp, .emp]) = _
  unfold F__read_lines
  rw [seq_ok (ρ' := [.val (.str (textL (pre ++ l :: post))), .val T, .val (.list ((pre ++ l :: post).map .str)), .emp, .emp, .emp, .emp, .emp, .emp]) (set_ok (by
    show ((if 1 = 1 then (match m_lines_of [.str (textL (pre ++ l :: post))] with
      | .ok xs => Res.ok xs
      | _ => .bad) else .bad).map PyData.list) = _
    rw [hlr]
    rfl))]
  unfold T__read_lines_1
  rw [seq_ok (ρ' := oF T (textL (pre ++ l :: post)) ((pre ++ l :: post).map .str) "line") (set_ok rfl)]
  unfold T__read_lines_2
  show outR (sSeq (sFor _ _ B__read_lines_0) T__read_lines_3 (oF T (textL (pre ++ l :: post)) ((pre ++ l :: post).map .str) "line")) = _
  rw [seq_exc ((for_ok rfl).trans hlo)]
  rfl
end
/-! ### choices -/
def chD (q : Str × Str) : Pyr.D := .tuple [.str q.1, .str q.2]
def kindIs (w k : Str) (b : Bool) : Prop := m__is_of_kind [.str w, .str k] = .ok (.val (.bool b))
def AllF (w : Str) : List (Str × Str) → Prop
  | [] => True
  | q :: r => kindIs w q.1 false ∧ AllF w r
theorem sb_go (C : Pyr.D) (w : Str) : ∀ pre : List (Str × Str), AllF w pre → ∀ rest : List Pyr.D, forF (Tg.tp [2, 3]) B__state_behind_0 (pre.map chD ++ rest) [.val C, .val (.str w), .emp, .emp] = forF (Tg.tp [2, 3]) B__state_behind_0 rest [.val C, .val (.str w), .emp, .emp]
  | [], _, _ => rfl
  | q :: pre, h, rest => (forF_next rfl (sb_miss C q.1 q.2 w h.1)).trans (sb_go C w pre h.2 rest)
theorem sb_hitG (w : Str) (pre : List (Str × Str)) (q : Str × Str) (rest : List (Str × Str)) (h : AllF w pre) (h2 : kindIs w q.1 true) : m__state_behind [.tuple ((pre ++ q :: rest).map chD), .str w] = .ok (.val (.str q.2)) := by
  rw [u__state_behind, defM_eq (np := 2) rfl]
  show outR (F__state_behind [.val (.tuple ((pre ++ q :: rest).map chD)), .val (.str w), .emp, .emp]) = _
  unfold F__state_behind
  show outR (sSeq (sFor _ _ B__state_behind_0) _ [.val (.tuple ((pre ++ q :: rest).map chD)), .val (.str w), .emp, .emp]) = _
  rw [seq_ret ((for_ok (ds := (pre ++ q :: rest).map chD) rfl).trans ((by rw [List.map_append]; exact sb_go _ w pre h _ : _ = _).trans (forF_ret rfl (sb_hit _ q.1 q.2 w h2))))]
  rfl
theorem sb_noneG (w : Str) (ks : List (Str × Str)) (h : AllF w ks) : m__state_behind [.tuple (ks.map chD), .str w] = .ok (.val .none) := by
  rw [u__state_behind, defM_eq (np := 2) rfl]
  show outR (F__state_behind [.val (.tuple (ks.map chD)), .val (.str w), .emp, .emp]) = _
  unfold F__state_behind
  show outR (sSeq (sFor _ _ B__state_behind_0) _ [.val (.tuple (ks.map chD)), .val (.str w), .emp, .emp]) = _
  have e : forF (Tg.tp [2, 3]) B__state_behind_0 (ks.map chD) [.val (.tuple (ks.map chD)), .val (.str w), .emp, .emp] = .ok (.next [.val (.tuple (ks.map chD)), .val (.str w), .emp, .emp]) := by
    have := sb_go (.tuple (ks.map chD)) w ks h []
    rw [List.append_nil] at this
    exact this
  rw [seq_ok ((for_ok (ds := ks.map chD) rfl).trans e)]
  rfl
theorem step_h {T : Pyr.D} {s w : Str} (pre : List (Str × Str)) (q : Str × Str) (rest : List (Str × Str)) (hC : dAtD T (.str s) = .ok (.tuple ((pre ++ q :: rest).map chD))) (h : AllF w pre) (h2 : kindIs w q.1 true) : Step T s w q.2 := ⟨_, hC, sb_hitG w pre q rest h h2⟩
theorem fail_h {T : Pyr.D} {s w : Str} (ks : List (Str × Str)) (hC : dAtD T (.str s) = .ok (.tuple (ks.map chD))) (h : AllF w ks) : Fail T s w := ⟨_, hC, sb_noneG w ks h⟩
/-! ### kinds -/
theorem kO (w k : Str) (b : Bool) (h : decide (w = k) = b) (h1 : (k = "NAME") ↔ False) (h2 : (k = "NUMBER") ↔ False) (h3 : (k = "TERM") ↔ False) : kindIs w k b := by
  unfold kindIs
  rw [kind_other _ _ h1 h2 h3, h]
theorem kName (w : Str) (b : Bool) (h : (decide (w.length ≤ 100) && (wordB w == b)) = true) : kindIs w "NAME" b := by
  rw [Bool.and_eq_true, decide_eq_true_eq, beq_iff_eq] at h
  have hw : m_is_word [.str w] = .ok (.val (.bool b)) := by
    rw [is_word_run (.str w) (fun y e => by cases e; have := h.1; show _ ≤ 100000; omega) (fun es e => by cases e)]
    show Res.ok (RV.val (.bool (wordB w))) = _
    rw [h.2]
  unfold kindIs
  rw [u__is_of_kind, defM_eq (np := 2) rfl]
  show outR (F__is_of_kind [.val (.str w), .val (.str "NAME")]) = _
  unfold F__is_of_kind
  dsimp! [eL, hw]
theorem kNum (w : Str) (d : Pyr.D) (b : Bool) (h : m_read_number [.str w] = .ok (.val d)) (hb : notBD d .none = .ok (.bool b)) : kindIs w "NUMBER" b := by
  have h1 : (("NUMBER" : Str) = "NAME") ↔ False := by decide +kernel
  unfold kindIs
  rw [u__is_of_kind, defM_eq (np := 2) rfl]
  show outR (F__is_of_kind [.val (.str w), .val (.str "NUMBER")]) = _
  unfold F__is_of_kind
  dsimp! [eL, h, h1, hb, T__is_of_kind_1]
theorem kTerm (w : Str) (d : Pyr.D) (b : Bool) (h : m_read_term [.str w] = .ok (.val d)) (hb : notBD d .none = .ok (.bool b)) : kindIs w "TERM" b := by
  have h1 : (("TERM" : Str) = "NAME") ↔ False := by decide +kernel
  have h2 : (("TERM" : Str) = "NUMBER") ↔ False := by decide +kernel
  unfold kindIs
  rw [u__is_of_kind, defM_eq (np := 2) rfl]
  show outR (F__is_of_kind [.val (.str w), .val (.str "TERM")]) = _
  unfold F__is_of_kind
  dsimp! [eL, h, h1, h2, hb, T__is_of_kind_1, T__is_of_kind_2]
theorem kNameW {w : Str} (h : Wd w) : kindIs w "NAME" true := kName w true (by
  rw [wd_wordB h, decide_eq_true (by have := h.2.1; omega)]
  rfl)
theorem mk_ne (a b : Nat) (h : a ≠ b) : (mk [a] = mk [b]) ↔ False := ⟨fun e => h (by have := congrArg (fun z : Str => z.cps.toList) e; simpa using this), False.elim⟩
theorem q_is : ("?" : Str) = mk [63] := by decide +kernel
theorem at_0 {w : Str} {a : Nat} (hw : w.length ≤ 100000) (h : w.cps.toList[0]? = some a) : atD (.str w) (.int 0) = .ok (.str (mk [a])) := at_str (k := 0) h hw
theorem word_call (w : Str) (hw : w.length ≤ 100000) : m_is_word [.str w] = .ok (.val (.bool (wordB w))) := is_word_run (.str w) (fun x e => by cases e; exact hw) (fun es e => by cases e)
theorem tail_run (w : Str) (hw : w.length ≤ 100000) : outR (sRet (eIf (tE truD (eCall m_is_word (aC (eVar 0) a0))) (eN tupD (aC (eC (.str "word")) (aC (eVar 0) a0))) (eC .none)) [.val (.str w)]) = .ok (.val (if wordB w = true then .tuple [.str "word", .str w] else .none)) := by
  by_cases h : wordB w = true
  · have hL : ([PyData.str "word", PyData.str w] : List Pyr.D).length ≤ 100000 := by show 2 ≤ 100000; omega
    dsimp! [eL, word_call w hw, h, okL_ok hL]
  · dsimp! [eL, word_call w hw, h]
theorem read_gen (w : Str) (hw : w.length ≤ 100000) (hq : ¬ (w.length = 2 ∧ w.cps.toList[0]? = some 63)) : m_read_term [.str w] = .ok (.val (if wordB w = true then .tuple [.str "word", .str w] else .none)) := by
  rw [u_read_term]
  rw [defM_eq (np := 1) rfl]
  show outR (F_read_term [.val (.str w)]) = _
  unfold F_read_term
  rw [seq_ok (ρ' := [.val (.str w)])]
  · exact tail_run w hw
  by_cases h2 : w.length = 2
  · have hl : w.cps.toList.length = 2 := by rw [← tl_len, h2]
    have h0 : w.cps.toList[0]? = some w.cps.toList[0] := List.getElem?_eq_getElem (by omega)
    have hne : w.cps.toList[0] ≠ 63 := fun e => hq ⟨h2, by rw [h0, e]⟩
    have ea := at_0 hw h0
    have hi : ((w.length : Nat) : Int) = 2 := by omega
    dsimp! [eL, hi, ea, q_is, mk_ne _ _ hne]
  · have hi : (((w.length : Nat) : Int) = 2) ↔ False := ⟨fun e => by omega, False.elim⟩
    dsimp! [eL, hi]
theorem term_wd {w : Str} (h : Wd w) : m_read_term [.str w] = .ok (.val (.tuple [.str "word", .str w])) := by
  have h := read_gen w (by have := h.2.1; omega) (fun z => by
    have m : 63 ∈ w.cps.toList := List.mem_of_getElem? z.2
    exact absurd (h.2.2 63 m) (by decide +kernel)) |>.trans (by rw [wd_wordB h, if_pos rfl])
  exact h
theorem kTermW {w : Str} (h : Wd w) : kindIs w "TERM" true := kTerm w _ true (term_wd h) rfl
/-! ### a wrong word at its place -/
structure WsK (ws : List Str) : Prop where
  ne : ws ≠ []
  ok : ∀ w ∈ ws, WOk w
  sh : cs ws ≤ 190
theorem cs_app : ∀ a b : List Str, cs (a ++ b) = cs a + cs b
  | [], b => by show cs b = 0 + cs b; omega
  | x :: a, b => by
    show x.length + 1 + cs (a ++ b) = x.length + 1 + cs a + cs b
    rw [cs_app a b]
    omega
theorem lineW_cs : ∀ ws : List Str, ws ≠ [] → (lineW ws).length + 1 = cs ws
  | [], h => absurd rfl h
  | [a], _ => by rw [lineW_one]; rfl
  | a :: b :: r, _ => by
    have ih := lineW_cs (b :: r) (List.cons_ne_nil _ _)
    have e : (" " : Str).length = 1 := by decide +kernel
    rw [lineW_cons, app_len, app_len, e]
    show a.length + (1 + (lineW (b :: r)).length) + 1 = a.length + 1 + cs (b :: r)
    omega
theorem cs_len : ∀ ws : List Str, ws.length ≤ cs ws
  | [] => Nat.le_refl _
  | w :: r => by
    have := cs_len r
    show r.length + 1 ≤ w.length + 1 + cs r
    omega
def colOf (ws : List Str) (p : Nat) : Nat := if p = ws.length then cs ws else 1 + cs (ws.take p)
inductive BadW (T : Pyr.D) : Str → List (List Str) → Nat → Nat → Prop
  | word {s s1 : Str} (a : List Str) (w : Str) (b : List Str) (rest : List (List Str)) (p : Nat) : Path T s a s1 → Fail T s1 w → p = a.length → BadW T s ((a ++ w :: b) :: rest) 0 p
  | stop {s s1 : Str} (ws : List Str) (rest : List (List Str)) (p : Nat) : Path T s ws s1 → Fail T s1 "\n" → p = ws.length → BadW T s (ws :: rest) 0 p
  | next {s s1 s2 : Str} {ws : List Str} {rest : List (List Str)} {i p : Nat} : Path T s ws s1 → Step T s1 "\n" s2 → BadW T s2 rest i p → BadW T s (ws :: rest) (i + 1) p
theorem BadW.lines {T : Pyr.D} {s : Str} {wss : List (List Str)} {i p : Nat} (h : BadW T s wss i p) (hk : ∀ ws ∈ wss, WsK ws) : ∃ pre l post s1, wss.map lineW = pre ++ l :: post ∧ pre.length = i ∧ Lines T s pre s1 ∧ BadL T s1 l (colOf (wss.getD i []) p) := by
  induction h with
  | word a w b rest p pa f hp =>
    have k := hk _ List.mem_cons_self
    subst hp
    refine ⟨[], lineW (a ++ w :: b), rest.map lineW, _, rfl, rfl, .nil, .inl ⟨a, w, b, _, split_lineW _ k.ne k.ok, pa, f, ?_⟩⟩
    show colOf (a ++ w :: b) a.length = 1 + cs a
    unfold colOf
    rw [if_neg (by rw [List.length_append, List.length_cons]; omega), List.take_left]
  | stop ws rest p pa f hp =>
    have k := hk _ List.mem_cons_self
    subst hp
    refine ⟨[], lineW ws, rest.map lineW, _, rfl, rfl, .nil, .inr ⟨_, by rw [split_lineW _ k.ne k.ok]; exact pa, f, ?_⟩⟩
    show colOf ws ws.length = _
    unfold colOf
    rw [if_pos rfl, lineW_cs ws k.ne]
  | @next s s1 s2 ws rest i p pa st _ ih =>
    have k := hk _ List.mem_cons_self
    obtain ⟨pre, l, post, s3, e, hl, hp, hb⟩ := ih fun z hz => hk z (List.mem_cons_of_mem _ hz)
    refine ⟨lineW ws :: pre, l, post, s3, by rw [List.map_cons, e]; rfl, by rw [List.length_cons, hl], .cons (by rw [split_lineW _ k.ne k.ok]; exact pa) st hp, hb⟩
theorem lines_okK {wss : List (List Str)} (h : ∀ ws ∈ wss, WsK ws) (hl : wss.length ≤ 10) : LsOk (wss.map lineW) ∧ ∀ l ∈ wss.map lineW, l.length ≤ 190 := by
  have sh : ∀ l ∈ wss.map lineW, l.length ≤ 190 := fun l hl => by
    obtain ⟨ws, hw, rfl⟩ := List.mem_map.mp hl
    have := lineW_cs ws (h ws hw).ne
    have := (h ws hw).sh
    omega
  refine ⟨⟨by rw [List.length_map]; omega, fun l hl => ?_, fun l hl => Nat.le_trans (sh l hl) (by decide)⟩, sh⟩
  obtain ⟨ws, hw, rfl⟩ := List.mem_map.mp hl
  exact lineW_nl ws (h ws hw).ok
theorem BadW.read {T : Pyr.D} {wss : List (List Str)} {i p : Nat} (h : BadW T "line" wss i p) (hk : ∀ ws ∈ wss, WsK ws) (hl : wss.length ≤ 10) (hT : isLo T = false) : m__read_lines [.str (textL (wss.map lineW)), T] = .exc "BadText" (bad ((i : Int) + 1) (colOf (wss.getD i []) p : Int)) := by
  obtain ⟨l1, l2⟩ := lines_okK hk hl
  obtain ⟨pre, l, post, s1, e, hp, hn, hb⟩ := h.lines hk
  rw [e] at l1 l2 ⊢
  rw [← hp]
  exact read_lines_fail hT pre l post s1 _ l1 l2 hn (by rw [hp]; exact hb)
/-! ### the law's question -/
def wlD (ws : List Str) : Pyr.D := .list (ws.map .str)
theorem int_run (z : Int) : m__law_is_integer [.int z] = .ok (.val (.bool true)) := by
  rw [u__law_is_integer, defM_eq (np := 1) rfl]
  rfl
theorem col_loop (k N L P t : Pyr.D) : ∀ (ws : List Str) (c : Int), (∀ w ∈ ws, w.length ≤ 100) → forF (Tg.nm 6) B__law_told_0 (ws.map .str) [.val k, .val N, .val L, .val P, .val t, .val (.int c), .emp, .emp, .emp] = .ok (.next [.val k, .val N, .val L, .val P, .val t, .val (.int (c + (cs ws : Int))), .emp, .emp, .emp])
  | [], c, _ => by
    rw [show c + ((cs [] : Nat) : Int) = c by show c + 0 = c; omega]
    rfl
  | w :: ws, c, h => by
    have hw := h w List.mem_cons_self
    have b : B__law_told_0 [.val k, .val N, .val L, .val P, .val t, .val (.int c), .val (.str w), .emp, .emp] = .ok (.next [.val k, .val N, .val L, .val P, .val t, .val (.int (c + (w.length : Int) + 1)), .emp, .emp, .emp]) := by
      unfold B__law_told_0
      rw [seq_ok (set_ok (Eq.trans (e2_ok (x := .int (c + (w.length : Int))) (y := .int 1) (Eq.trans (e2_ok (x := .int c) (y := .int (w.length : Int)) rfl (Eq.trans (one_ok (x := .str w) rfl) (okL_ok (by show _ ≤ 100000; omega)))) rfl) rfl) rfl))]
      rfl
    refine (forF_next rfl b).trans ((col_loop k N L P t ws _ fun z hz => h z (List.mem_cons_of_mem _ hz)).trans ?_)
    rw [show c + (w.length : Int) + 1 + (cs ws : Int) = c + (cs (w :: ws) : Int) by show _ = c + ((w.length + 1 + cs ws : Nat) : Int); omega]
theorem eand_ok {fa fb : En → Res Pyr.D} {ρ : En} {a b : Bool} (h : fa ρ = .ok (.bool a)) (h2 : fb ρ = .ok (.bool b)) : eAnd fa fb ρ = .ok (.bool (a && b)) := by
  unfold eAnd
  rw [h]
  cases a
  · rfl
  · show fb ρ = _
    rw [h2]
    rfl
theorem told_run (kz : Int) (ns : List Pyr.D) (wss : List (List Str)) (i p : Nat) (hk : ∀ ws ∈ wss, WsK ws) (hl : wss.length ≤ 10) (hi : i < wss.length) (hp : p ≤ (wss.getD i []).length)
    (hR : m__law_read [.int kz, .list ns, .str (textL (wss.map lineW))] = .exc "BadText" (bad ((i : Int) + 1) (colOf (wss.getD i []) p : Int))) :
    m__law_told [.int kz, .list ns, .list (wss.map wlD), .tuple [.int (i : Int), .int (p : Int)]] = .ok (.val (.bool true)) := by
  obtain ⟨l1, l2⟩ := lines_okK hk hl
  have hgi : wss.getD i [] = wss[i] := by rw [List.getD_eq_getElem?_getD, List.getElem?_eq_getElem hi]; rfl
  rw [hgi] at hp hR
  have ki := hk _ (List.getElem_mem hi)
  have hj : joinD "" (.list (wss.map fun ws => .str (lnS (lineW ws)))) = .ok (.str (textL (wss.map lineW))) := by
    have := joinE ((wss.map lineW).map lnS) (by
      have s : ∀ (n : Nat) (ls : List Str), (∀ l ∈ ls, l.length ≤ n) → ((ls.map lnS).map (·.length)).sum ≤ (n + 1) * ls.length := fun n ls => by
        induction ls with
        | nil => exact fun _ => Nat.le_refl _
        | cons l ls ih =>
          intro h
          have a := ih fun z hz => h z (List.mem_cons_of_mem _ hz)
          have b := h l List.mem_cons_self
          have c := ln_len l
          simp only [List.map_cons, List.sum_cons, List.length_cons, Nat.mul_succ]
          omega
      have := s 200 _ l1.short
      have := l1.few
      omega)
    rw [List.map_map, List.map_map] at this
    exact this
  generalize hX : textL (wss.map lineW) = X at *
  have hc : lComp [8] (Tg.nm 8) (iF walkD (eVar 2)) tYesR (Pyr.e2 addD (eJoin (eC (.str " ")) (eVar 8)) (eC (.str "\n"))) [some (.int kz), some (.list ns), some (.list (wss.map wlD)), some (.tuple [.int (i : Int), .int (p : Int)]), none, none, none, none, none] = .ok (wss.map fun ws => .str (lnS (lineW ws))) := by
    refine lComp_ok (ds := wss.map wlD) rfl (by rw [List.length_map]; omega) (compF_en wlD (fun ws => .str (lnS (lineW ws))) wss fun ws hw => ⟨_, rfl, rfl, ?_⟩)
    have k := hk ws hw
    have := lineW_cs ws k.ne
    have := k.sh
    have := cs_len ws
    refine Eq.trans (e2_ok (x := .str (lineW ws)) (y := .str "\n") (eJoin_ok rfl (x := wlD ws) rfl (joinSp ws k.ok (by omega))) rfl) (addD_str (by rw [nl1]; show _ ≤ 100000; omega))
  have aL : atD (.list (wss.map wlD)) (.int (i : Int)) = .ok (wlD wss[i]) := at_list (by rw [List.getElem?_map, List.getElem?_eq_getElem hi]; rfl)
  have lW : lenD (wlD wss[i]) = .ok (.int (wss[i].length : Int)) := by
    show Res.ok (PyData.int (((wss[i].map PyData.str).length : Nat) : Int)) = _
    rw [List.length_map]
  have hrow : ∀ ρ : En, eVar 2 ρ = .ok (.list (wss.map wlD)) → eVar 3 ρ = .ok (.tuple [.int (i : Int), .int (p : Int)]) → (Pyr.e2 atD (eVar 2) (Pyr.e2 atD (eVar 3) (eC (.int 0)))) ρ = .ok (wlD wss[i]) := fun ρ h2 h3 => Eq.trans (e2_ok h2 (Eq.trans (e2_ok h3 (y := .int 0) rfl) rfl)) aL
  rw [u__law_told, defM_eq (np := 4) rfl]
  show outR (F__law_told [.val (.int kz), .val (.list ns), .val (.list (wss.map wlD)), .val (.tuple [.int (i : Int), .int (p : Int)]), .emp, .emp, .emp, .emp, .emp]) = _
  unfold F__law_told
  refine seqO (ρ' := [.val (.int kz), .val (.list ns), .val (.list (wss.map wlD)), .val (.tuple [.int (i : Int), .int (p : Int)]), .val (.str X), .emp, .emp, .emp, .emp]) (set_ok (eJoin_ok rfl (mapL_ok hc) hj)) ?_
  unfold T__law_told_1
  refine seqO (ρ' := [.val (.int kz), .val (.list ns), .val (.list (wss.map wlD)), .val (.tuple [.int (i : Int), .int (p : Int)]), .val (.str X), .val (.int 1), .emp, .emp, .emp]) (set_ok rfl) ?_
  unfold T__law_told_2
  show outR (sSeq (sFor (Tg.nm 6) _ B__law_told_0) T__law_told_3 [.val (.int kz), .val (.list ns), .val (.list (wss.map wlD)), .val (.tuple [.int (i : Int), .int (p : Int)]), .val (.str X), .val (.int 1), .emp, .emp, .emp]) = _
  have hcol := col_loop (.int kz) (.list ns) (.list (wss.map wlD)) (.tuple [.int (i : Int), .int (p : Int)]) (.str X) (wss[i].take p) 1 (fun w hw => by
    have := (ki.ok w (List.mem_of_mem_take hw)).len
    omega)
  refine seqO ((for_ok (ds := (wss[i].take p).map .str) ?_).trans hcol) ?_
  · refine iF_ok (x := .list ((wss[i].take p).map .str)) ?_
    show (((Pyr.e2 atD (eVar 2) (Pyr.e2 atD (eVar 3) (eC (.int 0)))) _).bind fun x => (Res.ok none).bind fun lo => (oSome (Pyr.e2 atD (eVar 3) (eC (.int 1))) _).bind fun hi => sliceD x lo hi) = _
    rw [hrow _ rfl rfl]
    show Res.ok (PyData.list (cutG (wss[i].map PyData.str) none (some (p : Int)))) = _
    rw [Pyr.cut_front, List.map_take]
  unfold T__law_told_3
  show outR (sSeq (sIf _ _ _) T__law_told_4 [.val (.int kz), .val (.list ns), .val (.list (wss.map wlD)), .val (.tuple [.int (i : Int), .int (p : Int)]), .val (.str X), .val (.int (1 + (cs (wss[i].take p) : Int))), .emp, .emp, .emp]) = _
  have ht : (tE boolD (Pyr.e2 eqD (Pyr.e2 atD (eVar 3) (eC (.int 1))) (eN (oneD lenD) (aC (Pyr.e2 atD (eVar 2) (Pyr.e2 atD (eVar 3) (eC (.int 0)))) Pyr.a0)))) (frzE [.val (.int kz), .val (.list ns), .val (.list (wss.map wlD)), .val (.tuple [.int (i : Int), .int (p : Int)]), .val (.str X), .val (.int (1 + (cs (wss[i].take p) : Int))), .emp, .emp, .emp]) = .ok (decide (p = wss[i].length)) := by
    refine Eq.trans (tE_ok (x := .bool (decide ((p : Int) = (wss[i].length : Int)))) (Eq.trans (e2_ok (x := .int (p : Int)) (y := .int (wss[i].length : Int)) (Eq.trans (e2_ok (x := .tuple [.int (i : Int), .int (p : Int)]) (y := .int 1) rfl rfl) rfl) (Eq.trans (one_ok (hrow _ rfl rfl)) lW)) (eqD_int _ _))) ?_
    show Res.ok (decide ((p : Int) = (wss[i].length : Int))) = _
    congr 1
    rw [decide_eq_decide]
    omega
  have hc3 : sIf (tE boolD (Pyr.e2 eqD (Pyr.e2 atD (eVar 3) (eC (.int 1))) (eN (oneD lenD) (aC (Pyr.e2 atD (eVar 2) (Pyr.e2 atD (eVar 3) (eC (.int 0)))) Pyr.a0)))) (sSet 5 (Pyr.e2 subD (eVar 5) (eC (.int 1)))) sNext [.val (.int kz), .val (.list ns), .val (.list (wss.map wlD)), .val (.tuple [.int (i : Int), .int (p : Int)]), .val (.str X), .val (.int (1 + (cs (wss[i].take p) : Int))), .emp, .emp, .emp] = .ok (.next [.val (.int kz), .val (.list ns), .val (.list (wss.map wlD)), .val (.tuple [.int (i : Int), .int (p : Int)]), .val (.str X), .val (.int (colOf wss[i] p : Int)), .emp, .emp, .emp]) := by
    rw [if_ok ht]
    unfold colOf
    by_cases q : p = wss[i].length
    · rw [decide_eq_true q, if_pos rfl, if_pos q, q, List.take_length]
      refine (set_ok (d := .int (1 + (cs wss[i] : Int) - 1)) rfl).trans ?_
      rw [show (1 + (cs wss[i] : Int) - 1) = (cs wss[i] : Int) by omega]
      rfl
    · rw [decide_eq_false q, if_neg Bool.false_ne_true, if_neg q]
      rw [show ((1 + cs (wss[i].take p) : Nat) : Int) = 1 + (cs (wss[i].take p) : Int) by omega]
      rfl
  refine seqO hc3 ?_
  unfold T__law_told_4
  generalize hcc : (colOf wss[i] p : Int) = c at *
  have hb : sDropP (eCall m__law_read (aC (eVar 0) (aC (eVar 1) (aC (eVar 4) Pyr.a0)))) [.val (.int kz), .val (.list ns), .val (.list (wss.map wlD)), .val (.tuple [.int (i : Int), .int (p : Int)]), .val (.str X), .val (.int c), .emp, .emp, .emp] = .exc "BadText" (bad ((i : Int) + 1) c) := by
    unfold sDropP
    show ((m__law_read [.int kz, .list ns, .str X]).map RV.d).bind _ = _
    rw [hR]
    rfl
  have e1 : ctT ctTab_BadText "BadText" = some true := by kernel_rfl
  have hr : ∀ F1 : Frm, F1 = List.set [.val (.int kz), .val (.list ns), .val (.list (wss.map wlD)), .val (.tuple [.int (i : Int), .int (p : Int)]), .val (.str X), .val (.int c), .emp, .emp, .emp] 7 (.own (.exc (xiD "BadText" (bad ((i : Int) + 1) c)))) →
      sSeq (sIf (tOrR (tNotR (tE truD (eCallV m__law_is_integer (aC (eXf xfTab 7 "line") Pyr.a0)))) (tNotR (tE truD (eCallV m__law_is_integer (aC (eXf xfTab 7 "column") Pyr.a0))))) (sRet (eC (.bool false))) sNext)
        (sRet (eAnd (Pyr.e2 eqD (eXf xfTab 7 "line") (Pyr.e2 addD (Pyr.e2 atD (eVar 3) (eC (.int 0))) (eC (.int 1)))) (Pyr.e2 eqD (eXf xfTab 7 "column") (eVar 5)))) F1 = .ok (.ret (.val (.bool true))) := fun F1 hF => by
    have x1 : eXf xfTab 7 "line" (purE F1) = .ok (.int ((i : Int) + 1)) := by subst hF; kernel_rfl
    have x2 : eXf xfTab 7 "column" (purE F1) = .ok (.int c) := by subst hF; kernel_rfl
    have y1 : eXf xfTab 7 "line" (frzE F1) = .ok (.int ((i : Int) + 1)) := by subst hF; kernel_rfl
    have y2 : eXf xfTab 7 "column" (frzE F1) = .ok (.int c) := by subst hF; kernel_rfl
    have v3 : eVar 3 (purE F1) = .ok (.tuple [.int (i : Int), .int (p : Int)]) := by subst hF; rfl
    have v5 : eVar 5 (purE F1) = .ok (.int c) := by subst hF; rfl
    have call : ∀ (f : En → Res Pyr.D) (ρ : En) (z : Int), f ρ = .ok (.int z) → (tNotR (tE truD (eCallV m__law_is_integer (aC f Pyr.a0)))) ρ = .ok false := fun f ρ z h => by
      refine not_ok (b := true) (Eq.trans (tE_ok (x := .bool true) ?_) rfl)
      unfold eCallV
      rw [aC_ok h (xs := []) rfl, bind_ok, int_run]
    have t : (tOrR (tNotR (tE truD (eCallV m__law_is_integer (aC (eXf xfTab 7 "line") Pyr.a0)))) (tNotR (tE truD (eCallV m__law_is_integer (aC (eXf xfTab 7 "column") Pyr.a0))))) (frzE F1) = .ok false := or_ok (a := false) (b := false) (call _ _ _ y1) fun _ => call _ _ _ y2
    rw [seq_ok (Eq.trans (if_ok t) rfl)]
    refine ret_ok ?_
    have q1 : (Pyr.e2 eqD (eXf xfTab 7 "line") (Pyr.e2 addD (Pyr.e2 atD (eVar 3) (eC (.int 0))) (eC (.int 1)))) (purE F1) = .ok (.bool true) := by
      refine Eq.trans (e2_ok x1 (y := .int ((i : Int) + 1)) (Eq.trans (e2_ok (x := .int (i : Int)) (y := .int 1) (Eq.trans (e2_ok v3 (y := .int 0) rfl) rfl) rfl) rfl)) ?_
      rw [eqD_int, decide_eq_true rfl]
    have q2 : (Pyr.e2 eqD (eXf xfTab 7 "column") (eVar 5)) (purE F1) = .ok (.bool true) := by
      refine Eq.trans (e2_ok x2 v5) ?_
      rw [eqD_int, decide_eq_true rfl]
    exact eand_ok (a := true) (b := true) q1 q2
  refine (congrArg outR (seq_ret (r := .val (.bool true)) ?_)).trans rfl
  unfold sTryF
  rw [hb]
  dsimp only
  rw [e1]
  dsimp only
  rw [hr _ rfl]
  rfl
def tS : Pyr.D := .dict [(.str "line", .tuple [.tuple [.str "table", .str "name"]]), (.str "name", .tuple [.tuple [.str "NAME", .str "width"]]), (.str "width", .tuple [.tuple [.str "NUMBER", .str "behind width"]]), (.str "behind width", .tuple [.tuple [.str "key", .str "key"], .tuple [.str "\n", .str "line"]]), (.str "key", .tuple [.tuple [.str "NUMBER", .str "behind key"]]), (.str "behind key", .tuple [.tuple [.str "\n", .str "line"]])]
theorem tS_lo : isLo tS = false := rfl
def tV : Pyr.D := .dict [(.str "line", .tuple [.tuple [.str "view", .str "width"]]), (.str "later line", .tuple [.tuple [.str "view", .str "width"], .tuple [.str "rule", .str "first of head"]]), (.str "width", .tuple [.tuple [.str "NUMBER", .str "behind width"]]), (.str "behind width", .tuple [.tuple [.str "\n", .str "later line"]]), (.str "first of head", .tuple [.tuple [.str "TERM", .str "more of head"]]), (.str "more of head", .tuple [.tuple [.str "TERM", .str "more of head"], .tuple [.str "<-", .str "atom"]]), (.str "atom", .tuple [.tuple [.str "NAME", .str "first of atom"]]), (.str "first of atom", .tuple [.tuple [.str "TERM", .str "more of atom"]]), (.str "more of atom", .tuple [.tuple [.str "TERM", .str "more of atom"], .tuple [.str ",", .str "atom"], .tuple [.str ";", .str "condition"], .tuple [.str "\n", .str "later line"]]), (.str "condition", .tuple [.tuple [.str "TERM", .str "sign"]]), (.str "sign", .tuple [.tuple [.str "=", .str "right side"], .tuple [.str "!=", .str "right side"]]), (.str "right side", .tuple [.tuple [.str "TERM", .str "behind condition"]]), (.str "behind condition", .tuple [.tuple [.str ",", .str "condition"], .tuple [.str "\n", .str "later line"]])]
theorem tV_lo : isLo tV = false := rfl
def tC : Pyr.D := .dict [(.str "line", .tuple [.tuple [.str "delete", .str "deleted"], .tuple [.str "insert", .str "inserted"]]), (.str "deleted", .tuple [.tuple [.str "NAME", .str "first deleted"]]), (.str "first deleted", .tuple [.tuple [.str "NAME", .str "more deleted"]]), (.str "more deleted", .tuple [.tuple [.str "NAME", .str "more deleted"], .tuple [.str "\n", .str "line"]]), (.str "later line", .tuple [.tuple [.str "insert", .str "inserted"]]), (.str "inserted", .tuple [.tuple [.str "NAME", .str "first inserted"]]), (.str "first inserted", .tuple [.tuple [.str "NAME", .str "more inserted"]]), (.str "more inserted", .tuple [.tuple [.str "NAME", .str "more inserted"], .tuple [.str "\n", .str "later line"]])]
theorem tC_lo : isLo tC = false := rfl
def tF : Pyr.D := .dict [(.str "line", .tuple [.tuple [.str "NAME", .str "first word"]]), (.str "first word", .tuple [.tuple [.str "NAME", .str "more words"]]), (.str "more words", .tuple [.tuple [.str "NAME", .str "more words"], .tuple [.str "\n", .str "line"]])]
theorem tF_lo : isLo tF = false := rfl
theorem set_exc {i : Nat} {fe : En → Res Pyr.D} {ρ : Frm} {c : Str} {fs : List (Str × Pyr.D)} (h : fe (purE ρ) = .exc c fs) : sSet i fe ρ = .exc c fs := by
  unfold sSet evP
  rw [h]
  rfl
theorem setL_exc {i : Nat} {fe : En → Res (List Pyr.D)} {ρ : Frm} {c : Str} {fs : List (Str × Pyr.D)} (h : fe (purE ρ) = .exc c fs) : sSetL i fe ρ = .exc c fs := by
  unfold sSetL evL
  rw [h]
  rfl
theorem ret_exc {fe : En → Res Pyr.D} {ρ : Frm} {c : Str} {fs : List (Str × Pyr.D)} (h : fe (purE ρ) = .exc c fs) : sRet fe ρ = .exc c fs := by
  unfold sRet evP
  rw [h]
  rfl
theorem retL_exc {fe : En → Res (List Pyr.D)} {ρ : Frm} {c : Str} {fs : List (Str × Pyr.D)} (h : fe (purE ρ) = .exc c fs) : sRetL fe ρ = .exc c fs := by
  unfold sRetL evL
  rw [h]
  rfl
theorem call_exc {m : List Pyr.D → Res RV} {fr : En → Res (List Pyr.D)} {ρ : En} {xs : List Pyr.D} {c : Str} {fs : List (Str × Pyr.D)} (hr : fr ρ = .ok xs) (hm : m xs = .exc c fs) : eCall m fr ρ = .exc c fs := by
  unfold eCall
  rw [hr, bind_ok, hm]
  rfl
theorem iF_exc {g : Pyr.D → Res (List Pyr.D)} {fa : En → Res Pyr.D} {ρ : En} {c : Str} {fs : List (Str × Pyr.D)} (h : fa ρ = .exc c fs) : iF g fa ρ = .exc c fs := by
  unfold iF
  rw [h]
  rfl
theorem lComp_exc {own : List Nat} {t : Tg} {fi : En → Res (List Pyr.D)} {tt : En → Res Bool} {fe : En → Res Pyr.D} {ρ : En} {c : Str} {fs : List (Str × Pyr.D)} (h : fi ρ = .exc c fs) : lComp own t fi tt fe ρ = .exc c fs := by
  unfold lComp
  rw [h]
  rfl
theorem for_exc {t : Tg} {fi : En → Res (List Pyr.D)} {F : Frm → Res Fl} {ρ : Frm} {c : Str} {fs : List (Str × Pyr.D)} (h : fi (purE ρ) = .exc c fs) : sForX t fi F ρ = .exc c fs := by
  unfold sForX
  rw [h]
  rfl
theorem rd_schema {X : Str} {b : List (Str × Pyr.D)} (h : m__read_lines [.str X, tS] = .exc "BadText" b) : m_read_schema [.str X] = .exc "BadText" b := by
  rw [u_read_schema, defM_eq (np := 1) rfl]
  show outR (F_read_schema [.val (.str X), .emp, .emp]) = _
  unfold F_read_schema
  rw [seq_exc (setL_exc (lComp_exc (iF_exc (call_exc (xs := [.str X, tS]) rfl h))))]
  rfl
theorem rd_views {S : Pyr.D} {X : Str} {b : List (Str × Pyr.D)} (h : m__read_lines [.str X, tV] = .exc "BadText" b) : m_read_views [S, .str X] = .exc "BadText" b := by
  rw [u_read_views, defM_eq (np := 2) rfl]
  show outR (F_read_views [.val S, .val (.str X), .emp, .emp]) = _
  unfold F_read_views
  refine (congrArg outR (seq_ok (setL_ok (d := []) rfl))).trans ?_
  unfold T_read_views_1
  show outR (sSeq (sForX _ _ _) _ [.val S, .val (.str X), .own (.lst []), .emp]) = _
  rw [seq_exc (for_exc (iF_exc (call_exc (xs := [.str X, tV]) rfl h)))]
  rfl
theorem rd_change {S D : Pyr.D} {X : Str} {b : List (Str × Pyr.D)} (h : m__read_lines [.str X, tC] = .exc "BadText" b) : m_read_change [S, D, .str X] = .exc "BadText" b := by
  rw [u_read_change, defM_eq (np := 3) rfl]
  show outR (F_read_change [.val S, .val D, .val (.str X), .emp, .emp, .emp, .emp]) = _
  unfold F_read_change
  rw [seq_exc (set_exc (call_exc (xs := [.str X, tC]) rfl h))]
  rfl
theorem rd_facts {S : Pyr.D} {X : Str} {b : List (Str × Pyr.D)} (h : m__read_lines [.str X, tF] = .exc "BadText" b) : m_read_facts [S, .str X] = .exc "BadText" b := by
  have hf : m__facts_of [.str X] = .exc "BadText" b := by
    rw [u__facts_of, defM_eq (np := 1) rfl]
    show outR (F__facts_of [.val (.str X), .emp]) = _
    unfold F__facts_of
    rw [retL_exc (lComp_exc (iF_exc (call_exc (xs := [.str X, tF]) rfl h)))]
    rfl
  rw [u_read_facts, defM_eq (np := 2) rfl]
  show outR (F_read_facts [.val S, .val (.str X), .emp]) = _
  unfold F_read_facts
  rw [seq_exc (set_exc (call_exc (xs := [.str X]) rfl hf))]
  rfl
def scD (a b : Str) : Pyr.D := .list [.tuple [.str a, .int 1, .none], .tuple [.str b, .int 2, .int 1]]
theorem rd_wish {a b X : Str} {V T : Pyr.D} {e : List (Str × Pyr.D)} (ht : m__wish_steps [scD a b] = .ok (.val T)) (h : m__read_lines [.str X, T] = .exc "BadText" e) : m_read_wish [scD a b, V, .str X] = .exc "BadText" e := by
  rw [u_read_wish, defM_eq (np := 3) rfl]
  show outR (F_read_wish [.val (scD a b), .val V, .val (.str X), .emp, .emp, .emp, .emp]) = _
  unfold F_read_wish
  rw [seq_exc (set_exc (call_exc (xs := [.str X, T]) (aC_ok rfl (aC_ok (call_ok (r := .val T) (xs := [scD a b]) (aC_ok rfl rfl) ht) rfl)) h))]
  rfl
section
variable {a b X : Str} {e : List (Str × Pyr.D)}
theorem lr0 (h : m__read_lines [.str X, tS] = .exc "BadText" e) : m__law_read [.int 0, .list [.str a, .str b], .str X] = .exc "BadText" e := by
  rw [u__law_read, defM_eq (np := 3) rfl]
  show outR (F__law_read [.val (.int 0), .val (.list [.str a, .str b]), .val (.str X), .emp]) = _
  unfold F__law_read
  refine (congrArg outR (seq_ok (ρ' := [.val (.int 0), .val (.list [.str a, .str b]), .val (.str X), .val (scD a b)]) (set_ok rfl))).trans ?_
  unfold T__law_read_1
  refine (congrArg outR (seq_exc (c := "BadText") (fs := e) ?_)).trans rfl
  rw [if_ok (b := true) rfl, if_pos rfl]
  exact ret_exc (call_exc (xs := [.str X]) rfl (rd_schema h))
theorem lr1 (h : m__read_lines [.str X, tV] = .exc "BadText" e) : m__law_read [.int 1, .list [.str a, .str b], .str X] = .exc "BadText" e := by
  rw [u__law_read, defM_eq (np := 3) rfl]
  show outR (F__law_read [.val (.int 1), .val (.list [.str a, .str b]), .val (.str X), .emp]) = _
  unfold F__law_read
  refine (congrArg outR (seq_ok (ρ' := [.val (.int 1), .val (.list [.str a, .str b]), .val (.str X), .val (scD a b)]) (set_ok rfl))).trans ?_
  unfold T__law_read_1
  refine (congrArg outR (seq_ok ((if_ok (b := false) rfl).trans rfl))).trans ?_
  unfold T__law_read_2
  refine (congrArg outR (seq_exc (c := "BadText") (fs := e) ?_)).trans rfl
  rw [if_ok (b := true) rfl, if_pos rfl]
  exact ret_exc (call_exc (xs := [scD a b, .str X]) rfl (rd_views h))
theorem lr2 {T : Pyr.D} (ht : m__wish_steps [scD a b] = .ok (.val T)) (h : m__read_lines [.str X, T] = .exc "BadText" e) : m__law_read [.int 2, .list [.str a, .str b], .str X] = .exc "BadText" e := by
  rw [u__law_read, defM_eq (np := 3) rfl]
  show outR (F__law_read [.val (.int 2), .val (.list [.str a, .str b]), .val (.str X), .emp]) = _
  unfold F__law_read
  refine (congrArg outR (seq_ok (ρ' := [.val (.int 2), .val (.list [.str a, .str b]), .val (.str X), .val (scD a b)]) (set_ok rfl))).trans ?_
  unfold T__law_read_1
  refine (congrArg outR (seq_ok ((if_ok (b := false) rfl).trans rfl))).trans ?_
  unfold T__law_read_2
  refine (congrArg outR (seq_ok ((if_ok (b := false) rfl).trans rfl))).trans ?_
  unfold T__law_read_3
  refine (congrArg outR (seq_exc (c := "BadText") (fs := e) ?_)).trans rfl
  rw [if_ok (b := true) rfl, if_pos rfl]
  exact ret_exc (call_exc (xs := [scD a b, .list [.tuple [.int 1, .list [.tuple [.tuple [.tuple [.str "var", .int 0]], .list [.tuple [.str a, .tuple [.tuple [.str "var", .int 0]]]], .list []]]]], .str X]) (by kernel_rfl) (rd_wish ht h))
theorem lr3 (h : m__read_lines [.str X, tC] = .exc "BadText" e) : m__law_read [.int 3, .list [.str a, .str b], .str X] = .exc "BadText" e := by
  rw [u__law_read, defM_eq (np := 3) rfl]
  show outR (F__law_read [.val (.int 3), .val (.list [.str a, .str b]), .val (.str X), .emp]) = _
  unfold F__law_read
  refine (congrArg outR (seq_ok (ρ' := [.val (.int 3), .val (.list [.str a, .str b]), .val (.str X), .val (scD a b)]) (set_ok rfl))).trans ?_
  unfold T__law_read_1
  refine (congrArg outR (seq_ok ((if_ok (b := false) rfl).trans rfl))).trans ?_
  unfold T__law_read_2
  refine (congrArg outR (seq_ok ((if_ok (b := false) rfl).trans rfl))).trans ?_
  unfold T__law_read_3
  refine (congrArg outR (seq_ok ((if_ok (b := false) rfl).trans rfl))).trans ?_
  unfold T__law_read_4
  rw [ret_exc (call_exc (xs := [scD a b, .list [], .str X]) rfl (rd_change h))]
  rfl
end
theorem kW (w : Str) (h1 : (w = "NAME") ↔ False) (h2 : (w = "NUMBER") ↔ False) (h3 : (w = "TERM") ↔ False) : m__is_of_kind [.str w, .str w] = .ok (.val (.bool true)) := by
  rw [kind_other _ _ h1 h2 h3, decide_eq_true rfl]
theorem wd_up {x : Str} (h : Wd x) (k : Str) (hk : 78 ∈ k.cps.toList) : (x = k) ↔ False := ⟨fun e => by
  subst e
  exact absurd (h.2.2 78 hk) (by decide +kernel), False.elim⟩
theorem wd_up2 {x : Str} (h : Wd x) (k : Str) (hk : 84 ∈ k.cps.toList) : (x = k) ↔ False := ⟨fun e => by
  subst e
  exact absurd (h.2.2 84 hk) (by decide +kernel), False.elim⟩
theorem kX {x : Str} (h : Wd x) : m__is_of_kind [.str x, .str x] = .ok (.val (.bool true)) := kW _ (wd_up h _ (by decide +kernel)) (wd_up h _ (by decide +kernel)) (wd_up2 h _ (by decide +kernel))
theorem ltS0 : dAtD tS (.str "line") = .ok (.tuple (([(("table" : Str), ("name" : Str))] : List (Str × Str)).map chD)) := by kernel_rfl
theorem ltS1 : dAtD tS (.str "name") = .ok (.tuple (([(("NAME" : Str), ("width" : Str))] : List (Str × Str)).map chD)) := by kernel_rfl
theorem ltS2 : dAtD tS (.str "width") = .ok (.tuple (([(("NUMBER" : Str), ("behind width" : Str))] : List (Str × Str)).map chD)) := by kernel_rfl
theorem ltS3 : dAtD tS (.str "behind width") = .ok (.tuple (([(("key" : Str), ("key" : Str)), (("\n" : Str), ("line" : Str))] : List (Str × Str)).map chD)) := by kernel_rfl
theorem ltS4 : dAtD tS (.str "key") = .ok (.tuple (([(("NUMBER" : Str), ("behind key" : Str))] : List (Str × Str)).map chD)) := by kernel_rfl
theorem ltS5 : dAtD tS (.str "behind key") = .ok (.tuple (([(("\n" : Str), ("line" : Str))] : List (Str × Str)).map chD)) := by kernel_rfl
theorem ltV0 : dAtD tV (.str "line") = .ok (.tuple (([(("view" : Str), ("width" : Str))] : List (Str × Str)).map chD)) := by kernel_rfl
theorem ltV1 : dAtD tV (.str "later line") = .ok (.tuple (([(("view" : Str), ("width" : Str)), (("rule" : Str), ("first of head" : Str))] : List (Str × Str)).map chD)) := by kernel_rfl
theorem ltV2 : dAtD tV (.str "width") = .ok (.tuple (([(("NUMBER" : Str), ("behind width" : Str))] : List (Str × Str)).map chD)) := by kernel_rfl
theorem ltV3 : dAtD tV (.str "behind width") = .ok (.tuple (([(("\n" : Str), ("later line" : Str))] : List (Str × Str)).map chD)) := by kernel_rfl
theorem ltV4 : dAtD tV (.str "first of head") = .ok (.tuple (([(("TERM" : Str), ("more of head" : Str))] : List (Str × Str)).map chD)) := by kernel_rfl
theorem ltV5 : dAtD tV (.str "more of head") = .ok (.tuple (([(("TERM" : Str), ("more of head" : Str)), (("<-" : Str), ("atom" : Str))] : List (Str × Str)).map chD)) := by kernel_rfl
theorem ltV6 : dAtD tV (.str "atom") = .ok (.tuple (([(("NAME" : Str), ("first of atom" : Str))] : List (Str × Str)).map chD)) := by kernel_rfl
theorem ltV7 : dAtD tV (.str "first of atom") = .ok (.tuple (([(("TERM" : Str), ("more of atom" : Str))] : List (Str × Str)).map chD)) := by kernel_rfl
theorem ltV8 : dAtD tV (.str "more of atom") = .ok (.tuple (([(("TERM" : Str), ("more of atom" : Str)), (("," : Str), ("atom" : Str)), ((";" : Str), ("condition" : Str)), (("\n" : Str), ("later line" : Str))] : List (Str × Str)).map chD)) := by kernel_rfl
theorem ltV9 : dAtD tV (.str "condition") = .ok (.tuple (([(("TERM" : Str), ("sign" : Str))] : List (Str × Str)).map chD)) := by kernel_rfl
theorem ltV10 : dAtD tV (.str "sign") = .ok (.tuple (([(("=" : Str), ("right side" : Str)), (("!=" : Str), ("right side" : Str))] : List (Str × Str)).map chD)) := by kernel_rfl
theorem ltV11 : dAtD tV (.str "right side") = .ok (.tuple (([(("TERM" : Str), ("behind condition" : Str))] : List (Str × Str)).map chD)) := by kernel_rfl
theorem ltV12 : dAtD tV (.str "behind condition") = .ok (.tuple (([(("," : Str), ("condition" : Str)), (("\n" : Str), ("later line" : Str))] : List (Str × Str)).map chD)) := by kernel_rfl
theorem ltC0 : dAtD tC (.str "line") = .ok (.tuple (([(("delete" : Str), ("deleted" : Str)), (("insert" : Str), ("inserted" : Str))] : List (Str × Str)).map chD)) := by kernel_rfl
theorem ltC1 : dAtD tC (.str "deleted") = .ok (.tuple (([(("NAME" : Str), ("first deleted" : Str))] : List (Str × Str)).map chD)) := by kernel_rfl
theorem ltC2 : dAtD tC (.str "first deleted") = .ok (.tuple (([(("NAME" : Str), ("more deleted" : Str))] : List (Str × Str)).map chD)) := by kernel_rfl
theorem ltC3 : dAtD tC (.str "more deleted") = .ok (.tuple (([(("NAME" : Str), ("more deleted" : Str)), (("\n" : Str), ("line" : Str))] : List (Str × Str)).map chD)) := by kernel_rfl
theorem ltC4 : dAtD tC (.str "later line") = .ok (.tuple (([(("insert" : Str), ("inserted" : Str))] : List (Str × Str)).map chD)) := by kernel_rfl
theorem ltC5 : dAtD tC (.str "inserted") = .ok (.tuple (([(("NAME" : Str), ("first inserted" : Str))] : List (Str × Str)).map chD)) := by kernel_rfl
theorem ltC6 : dAtD tC (.str "first inserted") = .ok (.tuple (([(("NAME" : Str), ("more inserted" : Str))] : List (Str × Str)).map chD)) := by kernel_rfl
theorem ltC7 : dAtD tC (.str "more inserted") = .ok (.tuple (([(("NAME" : Str), ("more inserted" : Str)), (("\n" : Str), ("later line" : Str))] : List (Str × Str)).map chD)) := by kernel_rfl
theorem ltF0 : dAtD tF (.str "line") = .ok (.tuple (([(("NAME" : Str), ("first word" : Str))] : List (Str × Str)).map chD)) := by kernel_rfl
theorem ltF1 : dAtD tF (.str "first word") = .ok (.tuple (([(("NAME" : Str), ("more words" : Str))] : List (Str × Str)).map chD)) := by kernel_rfl
theorem ltF2 : dAtD tF (.str "more words") = .ok (.tuple (([(("NAME" : Str), ("more words" : Str)), (("\n" : Str), ("line" : Str))] : List (Str × Str)).map chD)) := by kernel_rfl
def tW (a b : Str) : Pyr.D := .dict [(.str "edit", .tuple [.tuple [.str "add", .str "place"], .tuple [.str "remove", .str "place"]]), (.str "place", .tuple [.tuple [.str "NUMBER", .str "first word"]]), (.str "first word", .tuple [.tuple [.str "NAME", .str "more words"]]), (.str "more words", .tuple [.tuple [.str "NAME", .str "more words"], .tuple [.str "\n", .str "edit"]]), (.str "line", .tuple [.tuple [.str "may", .str "name 0"]]), (.str "name 0", .tuple [.tuple [.str a, .str "named 0"]]), (.str "named 0", .tuple [.tuple [.str "delete", .str "deleting 0"], .tuple [.str "insert", .str "inserting 0"], .tuple [.str "\n", .str "line 1"]]), (.str "deleting 0", .tuple [.tuple [.str "insert", .str "inserting 0"], .tuple [.str "\n", .str "line 1"]]), (.str "inserting 0", .tuple [.tuple [.str "\n", .str "line 1"]]), (.str "line 1", .tuple [.tuple [.str "may", .str "name 1"]]), (.str "name 1", .tuple [.tuple [.str b, .str "named 1"]]), (.str "named 1", .tuple [.tuple [.str "delete", .str "deleting 1"], .tuple [.str "insert", .str "inserting 1"], .tuple [.str "\n", .str "edit"]]), (.str "deleting 1", .tuple [.tuple [.str "insert", .str "inserting 1"], .tuple [.str "\n", .str "edit"]]), (.str "inserting 1", .tuple [.tuple [.str "\n", .str "edit"]])]
theorem tW_run (a b : Str) : m__wish_steps [scD a b] = .ok (.val (tW a b)) := by
  rw [u__wish_steps]
  kernel_rfl
theorem tW_lo (a b : Str) : isLo (tW a b) = false := rfl
theorem ltW0 (a b : Str) : dAtD (tW a b) (.str "edit") = .ok (.tuple (([(("add" : Str), ("place" : Str)), (("remove" : Str), ("place" : Str))] : List (Str × Str)).map chD)) := by kernel_rfl
theorem ltW1 (a b : Str) : dAtD (tW a b) (.str "place") = .ok (.tuple (([(("NUMBER" : Str), ("first word" : Str))] : List (Str × Str)).map chD)) := by kernel_rfl
theorem ltW2 (a b : Str) : dAtD (tW a b) (.str "first word") = .ok (.tuple (([(("NAME" : Str), ("more words" : Str))] : List (Str × Str)).map chD)) := by kernel_rfl
theorem ltW3 (a b : Str) : dAtD (tW a b) (.str "more words") = .ok (.tuple (([(("NAME" : Str), ("more words" : Str)), (("\n" : Str), ("edit" : Str))] : List (Str × Str)).map chD)) := by kernel_rfl
theorem ltW4 (a b : Str) : dAtD (tW a b) (.str "line") = .ok (.tuple (([(("may" : Str), ("name 0" : Str))] : List (Str × Str)).map chD)) := by kernel_rfl
theorem ltW5 (a b : Str) : dAtD (tW a b) (.str "name 0") = .ok (.tuple (([(a, ("named 0" : Str))] : List (Str × Str)).map chD)) := by kernel_rfl
theorem ltW6 (a b : Str) : dAtD (tW a b) (.str "named 0") = .ok (.tuple (([(("delete" : Str), ("deleting 0" : Str)), (("insert" : Str), ("inserting 0" : Str)), (("\n" : Str), ("line 1" : Str))] : List (Str × Str)).map chD)) := by kernel_rfl
theorem ltW7 (a b : Str) : dAtD (tW a b) (.str "deleting 0") = .ok (.tuple (([(("insert" : Str), ("inserting 0" : Str)), (("\n" : Str), ("line 1" : Str))] : List (Str × Str)).map chD)) := by kernel_rfl
theorem ltW8 (a b : Str) : dAtD (tW a b) (.str "inserting 0") = .ok (.tuple (([(("\n" : Str), ("line 1" : Str))] : List (Str × Str)).map chD)) := by kernel_rfl
theorem ltW9 (a b : Str) : dAtD (tW a b) (.str "line 1") = .ok (.tuple (([(("may" : Str), ("name 1" : Str))] : List (Str × Str)).map chD)) := by kernel_rfl
theorem ltW10 (a b : Str) : dAtD (tW a b) (.str "name 1") = .ok (.tuple (([(b, ("named 1" : Str))] : List (Str × Str)).map chD)) := by kernel_rfl
theorem ltW11 (a b : Str) : dAtD (tW a b) (.str "named 1") = .ok (.tuple (([(("delete" : Str), ("deleting 1" : Str)), (("insert" : Str), ("inserting 1" : Str)), (("\n" : Str), ("edit" : Str))] : List (Str × Str)).map chD)) := by kernel_rfl
theorem ltW12 (a b : Str) : dAtD (tW a b) (.str "deleting 1") = .ok (.tuple (([(("insert" : Str), ("inserting 1" : Str)), (("\n" : Str), ("edit" : Str))] : List (Str × Str)).map chD)) := by kernel_rfl
theorem ltW13 (a b : Str) : dAtD (tW a b) (.str "inserting 1") = .ok (.tuple (([(("\n" : Str), ("edit" : Str))] : List (Str × Str)).map chD)) := by kernel_rfl
theorem kf0 : kindIs "table" "table" true := kO _ _ _ (by decide +kernel) (by decide +kernel) (by decide +kernel) (by decide +kernel)
theorem kf1 : kindIs "key" "NUMBER" false := kNum _ (.none) _ (by rw [u_read_number]; kernel_rfl) rfl
theorem c0_0 {a b x y z : Str} (ha : Wd a) (hb : Wd b) (hx : Wd x) (hy : Wd y) (hz : Wd z) (hab : a ≠ b) : BadW tS "line" [[("table" : Str), a, ("key" : Str)]] 0 2 := (BadW.word [("table" : Str), a] ("key" : Str) [] [] _ (.cons (step_h [] (("table" : Str), "name") [] ltS0 trivial kf0) (.cons (step_h [] (("NAME" : Str), "width") [] ltS1 trivial (kNameW ha)) .nil)) (fail_h [(("NUMBER" : Str), "behind width")] ltS2 ⟨kf1, trivial⟩) rfl)
theorem kf2 : kindIs "9" "NUMBER" true := kNum _ (.int 9) _ (by rw [u_read_number]; kernel_rfl) rfl
theorem kf3 : kindIs "\n" "key" false := kO _ _ _ (by decide +kernel) (by decide +kernel) (by decide +kernel) (by decide +kernel)
theorem kf4 : kindIs "\n" "\n" true := kO _ _ _ (by decide +kernel) (by decide +kernel) (by decide +kernel) (by decide +kernel)
theorem d0_0 {a b x y z : Str} (ha : Wd a) (hb : Wd b) (hx : Wd x) (hy : Wd y) (hz : Wd z) (hab : a ≠ b) : BadW tS "line" [[("table" : Str), b, ("9" : Str)], [("table" : Str), a, ("key" : Str)]] 1 2 := (BadW.next (.cons (step_h [] (("table" : Str), "name") [] ltS0 trivial kf0) (.cons (step_h [] (("NAME" : Str), "width") [] ltS1 trivial (kNameW hb)) (.cons (step_h [] (("NUMBER" : Str), "behind width") [] ltS2 trivial kf2) .nil))) (step_h [(("key" : Str), "key")] (("\n" : Str), "line") [] ltS3 ⟨kf3, trivial⟩ kf4) (BadW.word [("table" : Str), a] ("key" : Str) [] [] _ (.cons (step_h [] (("table" : Str), "name") [] ltS0 trivial kf0) (.cons (step_h [] (("NAME" : Str), "width") [] ltS1 trivial (kNameW ha)) .nil)) (fail_h [(("NUMBER" : Str), "behind width")] ltS2 ⟨kf1, trivial⟩) rfl))
theorem kf5 : kindIs "2" "NUMBER" true := kNum _ (.int 2) _ (by rw [u_read_number]; kernel_rfl) rfl
theorem kf6 : kindIs "1" "key" false := kO _ _ _ (by decide +kernel) (by decide +kernel) (by decide +kernel) (by decide +kernel)
theorem kf7 : kindIs "1" "\n" false := kO _ _ _ (by decide +kernel) (by decide +kernel) (by decide +kernel) (by decide +kernel)
theorem c0_1 {a b x y z : Str} (ha : Wd a) (hb : Wd b) (hx : Wd x) (hy : Wd y) (hz : Wd z) (hab : a ≠ b) : BadW tS "line" [[("table" : Str), a, ("2" : Str), ("1" : Str)]] 0 3 := (BadW.word [("table" : Str), a, ("2" : Str)] ("1" : Str) [] [] _ (.cons (step_h [] (("table" : Str), "name") [] ltS0 trivial kf0) (.cons (step_h [] (("NAME" : Str), "width") [] ltS1 trivial (kNameW ha)) (.cons (step_h [] (("NUMBER" : Str), "behind width") [] ltS2 trivial kf5) .nil))) (fail_h [(("key" : Str), "key"), (("\n" : Str), "line")] ltS3 ⟨kf6, kf7, trivial⟩) rfl)
theorem d0_1 {a b x y z : Str} (ha : Wd a) (hb : Wd b) (hx : Wd x) (hy : Wd y) (hz : Wd z) (hab : a ≠ b) : BadW tS "line" [[("table" : Str), b, ("9" : Str)], [("table" : Str), a, ("2" : Str), ("1" : Str)]] 1 3 := (BadW.next (.cons (step_h [] (("table" : Str), "name") [] ltS0 trivial kf0) (.cons (step_h [] (("NAME" : Str), "width") [] ltS1 trivial (kNameW hb)) (.cons (step_h [] (("NUMBER" : Str), "behind width") [] ltS2 trivial kf2) .nil))) (step_h [(("key" : Str), "key")] (("\n" : Str), "line") [] ltS3 ⟨kf3, trivial⟩ kf4) (BadW.word [("table" : Str), a, ("2" : Str)] ("1" : Str) [] [] _ (.cons (step_h [] (("table" : Str), "name") [] ltS0 trivial kf0) (.cons (step_h [] (("NAME" : Str), "width") [] ltS1 trivial (kNameW ha)) (.cons (step_h [] (("NUMBER" : Str), "behind width") [] ltS2 trivial kf5) .nil))) (fail_h [(("key" : Str), "key"), (("\n" : Str), "line")] ltS3 ⟨kf6, kf7, trivial⟩) rfl))
theorem kf8 : kindIs "02" "NUMBER" false := kNum _ (.none) _ (by rw [u_read_number]; kernel_rfl) rfl
theorem c0_2 {a b x y z : Str} (ha : Wd a) (hb : Wd b) (hx : Wd x) (hy : Wd y) (hz : Wd z) (hab : a ≠ b) : BadW tS "line" [[("table" : Str), a, ("02" : Str)]] 0 2 := (BadW.word [("table" : Str), a] ("02" : Str) [] [] _ (.cons (step_h [] (("table" : Str), "name") [] ltS0 trivial kf0) (.cons (step_h [] (("NAME" : Str), "width") [] ltS1 trivial (kNameW ha)) .nil)) (fail_h [(("NUMBER" : Str), "behind width")] ltS2 ⟨kf8, trivial⟩) rfl)
theorem d0_2 {a b x y z : Str} (ha : Wd a) (hb : Wd b) (hx : Wd x) (hy : Wd y) (hz : Wd z) (hab : a ≠ b) : BadW tS "line" [[("table" : Str), b, ("9" : Str)], [("table" : Str), a, ("02" : Str)]] 1 2 := (BadW.next (.cons (step_h [] (("table" : Str), "name") [] ltS0 trivial kf0) (.cons (step_h [] (("NAME" : Str), "width") [] ltS1 trivial (kNameW hb)) (.cons (step_h [] (("NUMBER" : Str), "behind width") [] ltS2 trivial kf2) .nil))) (step_h [(("key" : Str), "key")] (("\n" : Str), "line") [] ltS3 ⟨kf3, trivial⟩ kf4) (BadW.word [("table" : Str), a] ("02" : Str) [] [] _ (.cons (step_h [] (("table" : Str), "name") [] ltS0 trivial kf0) (.cons (step_h [] (("NAME" : Str), "width") [] ltS1 trivial (kNameW ha)) .nil)) (fail_h [(("NUMBER" : Str), "behind width")] ltS2 ⟨kf8, trivial⟩) rfl))
theorem kf9 : kindIs "key" "key" true := kO _ _ _ (by decide +kernel) (by decide +kernel) (by decide +kernel) (by decide +kernel)
theorem kf10 : kindIs "x" "NUMBER" false := kNum _ (.none) _ (by rw [u_read_number]; kernel_rfl) rfl
theorem c0_3 {a b x y z : Str} (ha : Wd a) (hb : Wd b) (hx : Wd x) (hy : Wd y) (hz : Wd z) (hab : a ≠ b) : BadW tS "line" [[("table" : Str), a, ("2" : Str), ("key" : Str), ("x" : Str)]] 0 4 := (BadW.word [("table" : Str), a, ("2" : Str), ("key" : Str)] ("x" : Str) [] [] _ (.cons (step_h [] (("table" : Str), "name") [] ltS0 trivial kf0) (.cons (step_h [] (("NAME" : Str), "width") [] ltS1 trivial (kNameW ha)) (.cons (step_h [] (("NUMBER" : Str), "behind width") [] ltS2 trivial kf5) (.cons (step_h [] (("key" : Str), "key") [(("\n" : Str), "line")] ltS3 trivial kf9) .nil)))) (fail_h [(("NUMBER" : Str), "behind key")] ltS4 ⟨kf10, trivial⟩) rfl)
theorem d0_3 {a b x y z : Str} (ha : Wd a) (hb : Wd b) (hx : Wd x) (hy : Wd y) (hz : Wd z) (hab : a ≠ b) : BadW tS "line" [[("table" : Str), b, ("9" : Str)], [("table" : Str), a, ("2" : Str), ("key" : Str), ("x" : Str)]] 1 4 := (BadW.next (.cons (step_h [] (("table" : Str), "name") [] ltS0 trivial kf0) (.cons (step_h [] (("NAME" : Str), "width") [] ltS1 trivial (kNameW hb)) (.cons (step_h [] (("NUMBER" : Str), "behind width") [] ltS2 trivial kf2) .nil))) (step_h [(("key" : Str), "key")] (("\n" : Str), "line") [] ltS3 ⟨kf3, trivial⟩ kf4) (BadW.word [("table" : Str), a, ("2" : Str), ("key" : Str)] ("x" : Str) [] [] _ (.cons (step_h [] (("table" : Str), "name") [] ltS0 trivial kf0) (.cons (step_h [] (("NAME" : Str), "width") [] ltS1 trivial (kNameW ha)) (.cons (step_h [] (("NUMBER" : Str), "behind width") [] ltS2 trivial kf5) (.cons (step_h [] (("key" : Str), "key") [(("\n" : Str), "line")] ltS3 trivial kf9) .nil)))) (fail_h [(("NUMBER" : Str), "behind key")] ltS4 ⟨kf10, trivial⟩) rfl))
theorem kf11 : kindIs "1" "NUMBER" true := kNum _ (.int 1) _ (by rw [u_read_number]; kernel_rfl) rfl
theorem c0_4 {a b x y z : Str} (ha : Wd a) (hb : Wd b) (hx : Wd x) (hy : Wd y) (hz : Wd z) (hab : a ≠ b) : BadW tS "line" [[("table" : Str), a, ("2" : Str), ("key" : Str), ("1" : Str), ("1" : Str)]] 0 5 := (BadW.word [("table" : Str), a, ("2" : Str), ("key" : Str), ("1" : Str)] ("1" : Str) [] [] _ (.cons (step_h [] (("table" : Str), "name") [] ltS0 trivial kf0) (.cons (step_h [] (("NAME" : Str), "width") [] ltS1 trivial (kNameW ha)) (.cons (step_h [] (("NUMBER" : Str), "behind width") [] ltS2 trivial kf5) (.cons (step_h [] (("key" : Str), "key") [(("\n" : Str), "line")] ltS3 trivial kf9) (.cons (step_h [] (("NUMBER" : Str), "behind key") [] ltS4 trivial kf11) .nil))))) (fail_h [(("\n" : Str), "line")] ltS5 ⟨kf7, trivial⟩) rfl)
theorem d0_4 {a b x y z : Str} (ha : Wd a) (hb : Wd b) (hx : Wd x) (hy : Wd y) (hz : Wd z) (hab : a ≠ b) : BadW tS "line" [[("table" : Str), b, ("9" : Str)], [("table" : Str), a, ("2" : Str), ("key" : Str), ("1" : Str), ("1" : Str)]] 1 5 := (BadW.next (.cons (step_h [] (("table" : Str), "name") [] ltS0 trivial kf0) (.cons (step_h [] (("NAME" : Str), "width") [] ltS1 trivial (kNameW hb)) (.cons (step_h [] (("NUMBER" : Str), "behind width") [] ltS2 trivial kf2) .nil))) (step_h [(("key" : Str), "key")] (("\n" : Str), "line") [] ltS3 ⟨kf3, trivial⟩ kf4) (BadW.word [("table" : Str), a, ("2" : Str), ("key" : Str), ("1" : Str)] ("1" : Str) [] [] _ (.cons (step_h [] (("table" : Str), "name") [] ltS0 trivial kf0) (.cons (step_h [] (("NAME" : Str), "width") [] ltS1 trivial (kNameW ha)) (.cons (step_h [] (("NUMBER" : Str), "behind width") [] ltS2 trivial kf5) (.cons (step_h [] (("key" : Str), "key") [(("\n" : Str), "line")] ltS3 trivial kf9) (.cons (step_h [] (("NUMBER" : Str), "behind key") [] ltS4 trivial kf11) .nil))))) (fail_h [(("\n" : Str), "line")] ltS5 ⟨kf7, trivial⟩) rfl))
theorem kf12 : kindIs "view" "table" false := kO _ _ _ (by decide +kernel) (by decide +kernel) (by decide +kernel) (by decide +kernel)
theorem c0_5 {a b x y z : Str} (ha : Wd a) (hb : Wd b) (hx : Wd x) (hy : Wd y) (hz : Wd z) (hab : a ≠ b) : BadW tS "line" [[("view" : Str), a, ("2" : Str)]] 0 0 := (BadW.word [] ("view" : Str) [a, ("2" : Str)] [] _ .nil (fail_h [(("table" : Str), "name")] ltS0 ⟨kf12, trivial⟩) rfl)
theorem d0_5 {a b x y z : Str} (ha : Wd a) (hb : Wd b) (hx : Wd x) (hy : Wd y) (hz : Wd z) (hab : a ≠ b) : BadW tS "line" [[("table" : Str), b, ("9" : Str)], [("view" : Str), a, ("2" : Str)]] 1 0 := (BadW.next (.cons (step_h [] (("table" : Str), "name") [] ltS0 trivial kf0) (.cons (step_h [] (("NAME" : Str), "width") [] ltS1 trivial (kNameW hb)) (.cons (step_h [] (("NUMBER" : Str), "behind width") [] ltS2 trivial kf2) .nil))) (step_h [(("key" : Str), "key")] (("\n" : Str), "line") [] ltS3 ⟨kf3, trivial⟩ kf4) (BadW.word [] ("view" : Str) [a, ("2" : Str)] [] _ .nil (fail_h [(("table" : Str), "name")] ltS0 ⟨kf12, trivial⟩) rfl))
theorem kf13 : kindIs "1234567" "NUMBER" false := kNum _ (.none) _ (by rw [u_read_number]; kernel_rfl) rfl
theorem c0_6 {a b x y z : Str} (ha : Wd a) (hb : Wd b) (hx : Wd x) (hy : Wd y) (hz : Wd z) (hab : a ≠ b) : BadW tS "line" [[("table" : Str), a, ("1234567" : Str)]] 0 2 := (BadW.word [("table" : Str), a] ("1234567" : Str) [] [] _ (.cons (step_h [] (("table" : Str), "name") [] ltS0 trivial kf0) (.cons (step_h [] (("NAME" : Str), "width") [] ltS1 trivial (kNameW ha)) .nil)) (fail_h [(("NUMBER" : Str), "behind width")] ltS2 ⟨kf13, trivial⟩) rfl)
theorem d0_6 {a b x y z : Str} (ha : Wd a) (hb : Wd b) (hx : Wd x) (hy : Wd y) (hz : Wd z) (hab : a ≠ b) : BadW tS "line" [[("table" : Str), b, ("9" : Str)], [("table" : Str), a, ("1234567" : Str)]] 1 2 := (BadW.next (.cons (step_h [] (("table" : Str), "name") [] ltS0 trivial kf0) (.cons (step_h [] (("NAME" : Str), "width") [] ltS1 trivial (kNameW hb)) (.cons (step_h [] (("NUMBER" : Str), "behind width") [] ltS2 trivial kf2) .nil))) (step_h [(("key" : Str), "key")] (("\n" : Str), "line") [] ltS3 ⟨kf3, trivial⟩ kf4) (BadW.word [("table" : Str), a] ("1234567" : Str) [] [] _ (.cons (step_h [] (("table" : Str), "name") [] ltS0 trivial kf0) (.cons (step_h [] (("NAME" : Str), "width") [] ltS1 trivial (kNameW ha)) .nil)) (fail_h [(("NUMBER" : Str), "behind width")] ltS2 ⟨kf13, trivial⟩) rfl))
theorem kf14 : kindIs "view" "view" true := kO _ _ _ (by decide +kernel) (by decide +kernel) (by decide +kernel) (by decide +kernel)
theorem kf15 : kindIs "rule" "view" false := kO _ _ _ (by decide +kernel) (by decide +kernel) (by decide +kernel) (by decide +kernel)
theorem kf16 : kindIs "rule" "rule" true := kO _ _ _ (by decide +kernel) (by decide +kernel) (by decide +kernel) (by decide +kernel)
theorem kf17 : kindIs "<-" "TERM" false := kTerm _ .none _ (by rw [read_gen _ (by decide +kernel) (by decide +kernel), if_neg (by decide +kernel)]) rfl
theorem c1_0 {a b x y z : Str} (ha : Wd a) (hb : Wd b) (hx : Wd x) (hy : Wd y) (hz : Wd z) (hab : a ≠ b) : BadW tV "line" [[("view" : Str), ("1" : Str)], [("rule" : Str), ("<-" : Str), a, ("?0" : Str)]] 1 1 := (BadW.next (.cons (step_h [] (("view" : Str), "width") [] ltV0 trivial kf14) (.cons (step_h [] (("NUMBER" : Str), "behind width") [] ltV2 trivial kf11) .nil)) (step_h [] (("\n" : Str), "later line") [] ltV3 trivial kf4) (BadW.word [("rule" : Str)] ("<-" : Str) [a, ("?0" : Str)] [] _ (.cons (step_h [(("view" : Str), "width")] (("rule" : Str), "first of head") [] ltV1 ⟨kf15, trivial⟩ kf16) .nil) (fail_h [(("TERM" : Str), "more of head")] ltV4 ⟨kf17, trivial⟩) rfl))
theorem kf18 : kindIs "7" "NUMBER" true := kNum _ (.int 7) _ (by rw [u_read_number]; kernel_rfl) rfl
theorem d1_0 {a b x y z : Str} (ha : Wd a) (hb : Wd b) (hx : Wd x) (hy : Wd y) (hz : Wd z) (hab : a ≠ b) : BadW tV "line" [[("view" : Str), ("7" : Str)], [("view" : Str), ("1" : Str)], [("rule" : Str), ("<-" : Str), a, ("?0" : Str)]] 2 1 := (BadW.next (.cons (step_h [] (("view" : Str), "width") [] ltV0 trivial kf14) (.cons (step_h [] (("NUMBER" : Str), "behind width") [] ltV2 trivial kf18) .nil)) (step_h [] (("\n" : Str), "later line") [] ltV3 trivial kf4) (BadW.next (.cons (step_h [] (("view" : Str), "width") [(("rule" : Str), "first of head")] ltV1 trivial kf14) (.cons (step_h [] (("NUMBER" : Str), "behind width") [] ltV2 trivial kf11) .nil)) (step_h [] (("\n" : Str), "later line") [] ltV3 trivial kf4) (BadW.word [("rule" : Str)] ("<-" : Str) [a, ("?0" : Str)] [] _ (.cons (step_h [(("view" : Str), "width")] (("rule" : Str), "first of head") [] ltV1 ⟨kf15, trivial⟩ kf16) .nil) (fail_h [(("TERM" : Str), "more of head")] ltV4 ⟨kf17, trivial⟩) rfl)))
theorem kf19 : kindIs "?0" "TERM" true := kTerm _ (.tuple [.str "var", .int 0]) _ (by rw [u_read_term]; kernel_rfl) rfl
theorem kf20 : kindIs "<-" "<-" true := kO _ _ _ (by decide +kernel) (by decide +kernel) (by decide +kernel) (by decide +kernel)
theorem kf21 : kindIs "," "NAME" false := kName _ _ (by decide +kernel)
theorem c1_1 {a b x y z : Str} (ha : Wd a) (hb : Wd b) (hx : Wd x) (hy : Wd y) (hz : Wd z) (hab : a ≠ b) : BadW tV "line" [[("view" : Str), ("1" : Str)], [("rule" : Str), ("?0" : Str), ("<-" : Str), ("," : Str), a]] 1 3 := (BadW.next (.cons (step_h [] (("view" : Str), "width") [] ltV0 trivial kf14) (.cons (step_h [] (("NUMBER" : Str), "behind width") [] ltV2 trivial kf11) .nil)) (step_h [] (("\n" : Str), "later line") [] ltV3 trivial kf4) (BadW.word [("rule" : Str), ("?0" : Str), ("<-" : Str)] ("," : Str) [a] [] _ (.cons (step_h [(("view" : Str), "width")] (("rule" : Str), "first of head") [] ltV1 ⟨kf15, trivial⟩ kf16) (.cons (step_h [] (("TERM" : Str), "more of head") [] ltV4 trivial kf19) (.cons (step_h [(("TERM" : Str), "more of head")] (("<-" : Str), "atom") [] ltV5 ⟨kf17, trivial⟩ kf20) .nil))) (fail_h [(("NAME" : Str), "first of atom")] ltV6 ⟨kf21, trivial⟩) rfl))
theorem d1_1 {a b x y z : Str} (ha : Wd a) (hb : Wd b) (hx : Wd x) (hy : Wd y) (hz : Wd z) (hab : a ≠ b) : BadW tV "line" [[("view" : Str), ("7" : Str)], [("view" : Str), ("1" : Str)], [("rule" : Str), ("?0" : Str), ("<-" : Str), ("," : Str), a]] 2 3 := (BadW.next (.cons (step_h [] (("view" : Str), "width") [] ltV0 trivial kf14) (.cons (step_h [] (("NUMBER" : Str), "behind width") [] ltV2 trivial kf18) .nil)) (step_h [] (("\n" : Str), "later line") [] ltV3 trivial kf4) (BadW.next (.cons (step_h [] (("view" : Str), "width") [(("rule" : Str), "first of head")] ltV1 trivial kf14) (.cons (step_h [] (("NUMBER" : Str), "behind width") [] ltV2 trivial kf11) .nil)) (step_h [] (("\n" : Str), "later line") [] ltV3 trivial kf4) (BadW.word [("rule" : Str), ("?0" : Str), ("<-" : Str)] ("," : Str) [a] [] _ (.cons (step_h [(("view" : Str), "width")] (("rule" : Str), "first of head") [] ltV1 ⟨kf15, trivial⟩ kf16) (.cons (step_h [] (("TERM" : Str), "more of head") [] ltV4 trivial kf19) (.cons (step_h [(("TERM" : Str), "more of head")] (("<-" : Str), "atom") [] ltV5 ⟨kf17, trivial⟩ kf20) .nil))) (fail_h [(("NAME" : Str), "first of atom")] ltV6 ⟨kf21, trivial⟩) rfl)))
theorem kf22 : kindIs ";" "TERM" false := kTerm _ .none _ (by rw [read_gen _ (by decide +kernel) (by decide +kernel), if_neg (by decide +kernel)]) rfl
theorem c1_2 {a b x y z : Str} (ha : Wd a) (hb : Wd b) (hx : Wd x) (hy : Wd y) (hz : Wd z) (hab : a ≠ b) : BadW tV "line" [[("view" : Str), ("1" : Str)], [("rule" : Str), ("?0" : Str), ("<-" : Str), a, (";" : Str)]] 1 4 := (BadW.next (.cons (step_h [] (("view" : Str), "width") [] ltV0 trivial kf14) (.cons (step_h [] (("NUMBER" : Str), "behind width") [] ltV2 trivial kf11) .nil)) (step_h [] (("\n" : Str), "later line") [] ltV3 trivial kf4) (BadW.word [("rule" : Str), ("?0" : Str), ("<-" : Str), a] (";" : Str) [] [] _ (.cons (step_h [(("view" : Str), "width")] (("rule" : Str), "first of head") [] ltV1 ⟨kf15, trivial⟩ kf16) (.cons (step_h [] (("TERM" : Str), "more of head") [] ltV4 trivial kf19) (.cons (step_h [(("TERM" : Str), "more of head")] (("<-" : Str), "atom") [] ltV5 ⟨kf17, trivial⟩ kf20) (.cons (step_h [] (("NAME" : Str), "first of atom") [] ltV6 trivial (kNameW ha)) .nil)))) (fail_h [(("TERM" : Str), "more of atom")] ltV7 ⟨kf22, trivial⟩) rfl))
theorem d1_2 {a b x y z : Str} (ha : Wd a) (hb : Wd b) (hx : Wd x) (hy : Wd y) (hz : Wd z) (hab : a ≠ b) : BadW tV "line" [[("view" : Str), ("7" : Str)], [("view" : Str), ("1" : Str)], [("rule" : Str), ("?0" : Str), ("<-" : Str), a, (";" : Str)]] 2 4 := (BadW.next (.cons (step_h [] (("view" : Str), "width") [] ltV0 trivial kf14) (.cons (step_h [] (("NUMBER" : Str), "behind width") [] ltV2 trivial kf18) .nil)) (step_h [] (("\n" : Str), "later line") [] ltV3 trivial kf4) (BadW.next (.cons (step_h [] (("view" : Str), "width") [(("rule" : Str), "first of head")] ltV1 trivial kf14) (.cons (step_h [] (("NUMBER" : Str), "behind width") [] ltV2 trivial kf11) .nil)) (step_h [] (("\n" : Str), "later line") [] ltV3 trivial kf4) (BadW.word [("rule" : Str), ("?0" : Str), ("<-" : Str), a] (";" : Str) [] [] _ (.cons (step_h [(("view" : Str), "width")] (("rule" : Str), "first of head") [] ltV1 ⟨kf15, trivial⟩ kf16) (.cons (step_h [] (("TERM" : Str), "more of head") [] ltV4 trivial kf19) (.cons (step_h [(("TERM" : Str), "more of head")] (("<-" : Str), "atom") [] ltV5 ⟨kf17, trivial⟩ kf20) (.cons (step_h [] (("NAME" : Str), "first of atom") [] ltV6 trivial (kNameW ha)) .nil)))) (fail_h [(("TERM" : Str), "more of atom")] ltV7 ⟨kf22, trivial⟩) rfl)))
theorem kf23 : kindIs ";" "," false := kO _ _ _ (by decide +kernel) (by decide +kernel) (by decide +kernel) (by decide +kernel)
theorem kf24 : kindIs ";" ";" true := kO _ _ _ (by decide +kernel) (by decide +kernel) (by decide +kernel) (by decide +kernel)
theorem kf25 : kindIs "<-" "=" false := kO _ _ _ (by decide +kernel) (by decide +kernel) (by decide +kernel) (by decide +kernel)
theorem kf26 : kindIs "<-" "!=" false := kO _ _ _ (by decide +kernel) (by decide +kernel) (by decide +kernel) (by decide +kernel)
theorem c1_3 {a b x y z : Str} (ha : Wd a) (hb : Wd b) (hx : Wd x) (hy : Wd y) (hz : Wd z) (hab : a ≠ b) : BadW tV "line" [[("view" : Str), ("1" : Str)], [("rule" : Str), ("?0" : Str), ("<-" : Str), a, ("?0" : Str), (";" : Str), ("?0" : Str), ("<-" : Str)]] 1 7 := (BadW.next (.cons (step_h [] (("view" : Str), "width") [] ltV0 trivial kf14) (.cons (step_h [] (("NUMBER" : Str), "behind width") [] ltV2 trivial kf11) .nil)) (step_h [] (("\n" : Str), "later line") [] ltV3 trivial kf4) (BadW.word [("rule" : Str), ("?0" : Str), ("<-" : Str), a, ("?0" : Str), (";" : Str), ("?0" : Str)] ("<-" : Str) [] [] _ (.cons (step_h [(("view" : Str), "width")] (("rule" : Str), "first of head") [] ltV1 ⟨kf15, trivial⟩ kf16) (.cons (step_h [] (("TERM" : Str), "more of head") [] ltV4 trivial kf19) (.cons (step_h [(("TERM" : Str), "more of head")] (("<-" : Str), "atom") [] ltV5 ⟨kf17, trivial⟩ kf20) (.cons (step_h [] (("NAME" : Str), "first of atom") [] ltV6 trivial (kNameW ha)) (.cons (step_h [] (("TERM" : Str), "more of atom") [] ltV7 trivial kf19) (.cons (step_h [(("TERM" : Str), "more of atom"), (("," : Str), "atom")] ((";" : Str), "condition") [(("\n" : Str), "later line")] ltV8 ⟨kf22, kf23, trivial⟩ kf24) (.cons (step_h [] (("TERM" : Str), "sign") [] ltV9 trivial kf19) .nil))))))) (fail_h [(("=" : Str), "right side"), (("!=" : Str), "right side")] ltV10 ⟨kf25, kf26, trivial⟩) rfl))
theorem d1_3 {a b x y z : Str} (ha : Wd a) (hb : Wd b) (hx : Wd x) (hy : Wd y) (hz : Wd z) (hab : a ≠ b) : BadW tV "line" [[("view" : Str), ("7" : Str)], [("view" : Str), ("1" : Str)], [("rule" : Str), ("?0" : Str), ("<-" : Str), a, ("?0" : Str), (";" : Str), ("?0" : Str), ("<-" : Str)]] 2 7 := (BadW.next (.cons (step_h [] (("view" : Str), "width") [] ltV0 trivial kf14) (.cons (step_h [] (("NUMBER" : Str), "behind width") [] ltV2 trivial kf18) .nil)) (step_h [] (("\n" : Str), "later line") [] ltV3 trivial kf4) (BadW.next (.cons (step_h [] (("view" : Str), "width") [(("rule" : Str), "first of head")] ltV1 trivial kf14) (.cons (step_h [] (("NUMBER" : Str), "behind width") [] ltV2 trivial kf11) .nil)) (step_h [] (("\n" : Str), "later line") [] ltV3 trivial kf4) (BadW.word [("rule" : Str), ("?0" : Str), ("<-" : Str), a, ("?0" : Str), (";" : Str), ("?0" : Str)] ("<-" : Str) [] [] _ (.cons (step_h [(("view" : Str), "width")] (("rule" : Str), "first of head") [] ltV1 ⟨kf15, trivial⟩ kf16) (.cons (step_h [] (("TERM" : Str), "more of head") [] ltV4 trivial kf19) (.cons (step_h [(("TERM" : Str), "more of head")] (("<-" : Str), "atom") [] ltV5 ⟨kf17, trivial⟩ kf20) (.cons (step_h [] (("NAME" : Str), "first of atom") [] ltV6 trivial (kNameW ha)) (.cons (step_h [] (("TERM" : Str), "more of atom") [] ltV7 trivial kf19) (.cons (step_h [(("TERM" : Str), "more of atom"), (("," : Str), "atom")] ((";" : Str), "condition") [(("\n" : Str), "later line")] ltV8 ⟨kf22, kf23, trivial⟩ kf24) (.cons (step_h [] (("TERM" : Str), "sign") [] ltV9 trivial kf19) .nil))))))) (fail_h [(("=" : Str), "right side"), (("!=" : Str), "right side")] ltV10 ⟨kf25, kf26, trivial⟩) rfl)))
theorem kf27 : kindIs "," "TERM" false := kTerm _ .none _ (by rw [read_gen _ (by decide +kernel) (by decide +kernel), if_neg (by decide +kernel)]) rfl
theorem kf28 : kindIs "," "," true := kO _ _ _ (by decide +kernel) (by decide +kernel) (by decide +kernel) (by decide +kernel)
theorem kf29 : kindIs "?1" "NAME" false := kName _ _ (by decide +kernel)
theorem c1_4 {a b x y z : Str} (ha : Wd a) (hb : Wd b) (hx : Wd x) (hy : Wd y) (hz : Wd z) (hab : a ≠ b) : BadW tV "line" [[("view" : Str), ("1" : Str)], [("rule" : Str), ("?0" : Str), ("<-" : Str), a, ("?0" : Str), ("," : Str), ("?1" : Str)]] 1 6 := (BadW.next (.cons (step_h [] (("view" : Str), "width") [] ltV0 trivial kf14) (.cons (step_h [] (("NUMBER" : Str), "behind width") [] ltV2 trivial kf11) .nil)) (step_h [] (("\n" : Str), "later line") [] ltV3 trivial kf4) (BadW.word [("rule" : Str), ("?0" : Str), ("<-" : Str), a, ("?0" : Str), ("," : Str)] ("?1" : Str) [] [] _ (.cons (step_h [(("view" : Str), "width")] (("rule" : Str), "first of head") [] ltV1 ⟨kf15, trivial⟩ kf16) (.cons (step_h [] (("TERM" : Str), "more of head") [] ltV4 trivial kf19) (.cons (step_h [(("TERM" : Str), "more of head")] (("<-" : Str), "atom") [] ltV5 ⟨kf17, trivial⟩ kf20) (.cons (step_h [] (("NAME" : Str), "first of atom") [] ltV6 trivial (kNameW ha)) (.cons (step_h [] (("TERM" : Str), "more of atom") [] ltV7 trivial kf19) (.cons (step_h [(("TERM" : Str), "more of atom")] (("," : Str), "atom") [((";" : Str), "condition"), (("\n" : Str), "later line")] ltV8 ⟨kf27, trivial⟩ kf28) .nil)))))) (fail_h [(("NAME" : Str), "first of atom")] ltV6 ⟨kf29, trivial⟩) rfl))
theorem d1_4 {a b x y z : Str} (ha : Wd a) (hb : Wd b) (hx : Wd x) (hy : Wd y) (hz : Wd z) (hab : a ≠ b) : BadW tV "line" [[("view" : Str), ("7" : Str)], [("view" : Str), ("1" : Str)], [("rule" : Str), ("?0" : Str), ("<-" : Str), a, ("?0" : Str), ("," : Str), ("?1" : Str)]] 2 6 := (BadW.next (.cons (step_h [] (("view" : Str), "width") [] ltV0 trivial kf14) (.cons (step_h [] (("NUMBER" : Str), "behind width") [] ltV2 trivial kf18) .nil)) (step_h [] (("\n" : Str), "later line") [] ltV3 trivial kf4) (BadW.next (.cons (step_h [] (("view" : Str), "width") [(("rule" : Str), "first of head")] ltV1 trivial kf14) (.cons (step_h [] (("NUMBER" : Str), "behind width") [] ltV2 trivial kf11) .nil)) (step_h [] (("\n" : Str), "later line") [] ltV3 trivial kf4) (BadW.word [("rule" : Str), ("?0" : Str), ("<-" : Str), a, ("?0" : Str), ("," : Str)] ("?1" : Str) [] [] _ (.cons (step_h [(("view" : Str), "width")] (("rule" : Str), "first of head") [] ltV1 ⟨kf15, trivial⟩ kf16) (.cons (step_h [] (("TERM" : Str), "more of head") [] ltV4 trivial kf19) (.cons (step_h [(("TERM" : Str), "more of head")] (("<-" : Str), "atom") [] ltV5 ⟨kf17, trivial⟩ kf20) (.cons (step_h [] (("NAME" : Str), "first of atom") [] ltV6 trivial (kNameW ha)) (.cons (step_h [] (("TERM" : Str), "more of atom") [] ltV7 trivial kf19) (.cons (step_h [(("TERM" : Str), "more of atom")] (("," : Str), "atom") [((";" : Str), "condition"), (("\n" : Str), "later line")] ltV8 ⟨kf27, trivial⟩ kf28) .nil)))))) (fail_h [(("NAME" : Str), "first of atom")] ltV6 ⟨kf29, trivial⟩) rfl)))
theorem kf30 : kindIs "=" "TERM" false := kTerm _ .none _ (by rw [read_gen _ (by decide +kernel) (by decide +kernel), if_neg (by decide +kernel)]) rfl
theorem c1_5 {a b x y z : Str} (ha : Wd a) (hb : Wd b) (hx : Wd x) (hy : Wd y) (hz : Wd z) (hab : a ≠ b) : BadW tV "line" [[("view" : Str), ("1" : Str)], [("rule" : Str), ("?0" : Str), ("<-" : Str), a, ("?0" : Str), (";" : Str), ("=" : Str), x]] 1 6 := (BadW.next (.cons (step_h [] (("view" : Str), "width") [] ltV0 trivial kf14) (.cons (step_h [] (("NUMBER" : Str), "behind width") [] ltV2 trivial kf11) .nil)) (step_h [] (("\n" : Str), "later line") [] ltV3 trivial kf4) (BadW.word [("rule" : Str), ("?0" : Str), ("<-" : Str), a, ("?0" : Str), (";" : Str)] ("=" : Str) [x] [] _ (.cons (step_h [(("view" : Str), "width")] (("rule" : Str), "first of head") [] ltV1 ⟨kf15, trivial⟩ kf16) (.cons (step_h [] (("TERM" : Str), "more of head") [] ltV4 trivial kf19) (.cons (step_h [(("TERM" : Str), "more of head")] (("<-" : Str), "atom") [] ltV5 ⟨kf17, trivial⟩ kf20) (.cons (step_h [] (("NAME" : Str), "first of atom") [] ltV6 trivial (kNameW ha)) (.cons (step_h [] (("TERM" : Str), "more of atom") [] ltV7 trivial kf19) (.cons (step_h [(("TERM" : Str), "more of atom"), (("," : Str), "atom")] ((";" : Str), "condition") [(("\n" : Str), "later line")] ltV8 ⟨kf22, kf23, trivial⟩ kf24) .nil)))))) (fail_h [(("TERM" : Str), "sign")] ltV9 ⟨kf30, trivial⟩) rfl))
theorem d1_5 {a b x y z : Str} (ha : Wd a) (hb : Wd b) (hx : Wd x) (hy : Wd y) (hz : Wd z) (hab : a ≠ b) : BadW tV "line" [[("view" : Str), ("7" : Str)], [("view" : Str), ("1" : Str)], [("rule" : Str), ("?0" : Str), ("<-" : Str), a, ("?0" : Str), (";" : Str), ("=" : Str), x]] 2 6 := (BadW.next (.cons (step_h [] (("view" : Str), "width") [] ltV0 trivial kf14) (.cons (step_h [] (("NUMBER" : Str), "behind width") [] ltV2 trivial kf18) .nil)) (step_h [] (("\n" : Str), "later line") [] ltV3 trivial kf4) (BadW.next (.cons (step_h [] (("view" : Str), "width") [(("rule" : Str), "first of head")] ltV1 trivial kf14) (.cons (step_h [] (("NUMBER" : Str), "behind width") [] ltV2 trivial kf11) .nil)) (step_h [] (("\n" : Str), "later line") [] ltV3 trivial kf4) (BadW.word [("rule" : Str), ("?0" : Str), ("<-" : Str), a, ("?0" : Str), (";" : Str)] ("=" : Str) [x] [] _ (.cons (step_h [(("view" : Str), "width")] (("rule" : Str), "first of head") [] ltV1 ⟨kf15, trivial⟩ kf16) (.cons (step_h [] (("TERM" : Str), "more of head") [] ltV4 trivial kf19) (.cons (step_h [(("TERM" : Str), "more of head")] (("<-" : Str), "atom") [] ltV5 ⟨kf17, trivial⟩ kf20) (.cons (step_h [] (("NAME" : Str), "first of atom") [] ltV6 trivial (kNameW ha)) (.cons (step_h [] (("TERM" : Str), "more of atom") [] ltV7 trivial kf19) (.cons (step_h [(("TERM" : Str), "more of atom"), (("," : Str), "atom")] ((";" : Str), "condition") [(("\n" : Str), "later line")] ltV8 ⟨kf22, kf23, trivial⟩ kf24) .nil)))))) (fail_h [(("TERM" : Str), "sign")] ltV9 ⟨kf30, trivial⟩) rfl)))
theorem kf31 : kindIs "\n" "NAME" false := kName _ _ (by decide +kernel)
theorem c1_6 {a b x y z : Str} (ha : Wd a) (hb : Wd b) (hx : Wd x) (hy : Wd y) (hz : Wd z) (hab : a ≠ b) : BadW tV "line" [[("view" : Str), ("1" : Str)], [("rule" : Str), ("?0" : Str), ("<-" : Str), a, ("?0" : Str), ("," : Str)]] 1 6 := (BadW.next (.cons (step_h [] (("view" : Str), "width") [] ltV0 trivial kf14) (.cons (step_h [] (("NUMBER" : Str), "behind width") [] ltV2 trivial kf11) .nil)) (step_h [] (("\n" : Str), "later line") [] ltV3 trivial kf4) (BadW.stop [("rule" : Str), ("?0" : Str), ("<-" : Str), a, ("?0" : Str), ("," : Str)] [] _ (.cons (step_h [(("view" : Str), "width")] (("rule" : Str), "first of head") [] ltV1 ⟨kf15, trivial⟩ kf16) (.cons (step_h [] (("TERM" : Str), "more of head") [] ltV4 trivial kf19) (.cons (step_h [(("TERM" : Str), "more of head")] (("<-" : Str), "atom") [] ltV5 ⟨kf17, trivial⟩ kf20) (.cons (step_h [] (("NAME" : Str), "first of atom") [] ltV6 trivial (kNameW ha)) (.cons (step_h [] (("TERM" : Str), "more of atom") [] ltV7 trivial kf19) (.cons (step_h [(("TERM" : Str), "more of atom")] (("," : Str), "atom") [((";" : Str), "condition"), (("\n" : Str), "later line")] ltV8 ⟨kf27, trivial⟩ kf28) .nil)))))) (fail_h [(("NAME" : Str), "first of atom")] ltV6 ⟨kf31, trivial⟩) rfl))
theorem d1_6 {a b x y z : Str} (ha : Wd a) (hb : Wd b) (hx : Wd x) (hy : Wd y) (hz : Wd z) (hab : a ≠ b) : BadW tV "line" [[("view" : Str), ("7" : Str)], [("view" : Str), ("1" : Str)], [("rule" : Str), ("?0" : Str), ("<-" : Str), a, ("?0" : Str), ("," : Str)]] 2 6 := (BadW.next (.cons (step_h [] (("view" : Str), "width") [] ltV0 trivial kf14) (.cons (step_h [] (("NUMBER" : Str), "behind width") [] ltV2 trivial kf18) .nil)) (step_h [] (("\n" : Str), "later line") [] ltV3 trivial kf4) (BadW.next (.cons (step_h [] (("view" : Str), "width") [(("rule" : Str), "first of head")] ltV1 trivial kf14) (.cons (step_h [] (("NUMBER" : Str), "behind width") [] ltV2 trivial kf11) .nil)) (step_h [] (("\n" : Str), "later line") [] ltV3 trivial kf4) (BadW.stop [("rule" : Str), ("?0" : Str), ("<-" : Str), a, ("?0" : Str), ("," : Str)] [] _ (.cons (step_h [(("view" : Str), "width")] (("rule" : Str), "first of head") [] ltV1 ⟨kf15, trivial⟩ kf16) (.cons (step_h [] (("TERM" : Str), "more of head") [] ltV4 trivial kf19) (.cons (step_h [(("TERM" : Str), "more of head")] (("<-" : Str), "atom") [] ltV5 ⟨kf17, trivial⟩ kf20) (.cons (step_h [] (("NAME" : Str), "first of atom") [] ltV6 trivial (kNameW ha)) (.cons (step_h [] (("TERM" : Str), "more of atom") [] ltV7 trivial kf19) (.cons (step_h [(("TERM" : Str), "more of atom")] (("," : Str), "atom") [((";" : Str), "condition"), (("\n" : Str), "later line")] ltV8 ⟨kf27, trivial⟩ kf28) .nil)))))) (fail_h [(("NAME" : Str), "first of atom")] ltV6 ⟨kf31, trivial⟩) rfl)))
theorem kf32 : kindIs "=" "=" true := kO _ _ _ (by decide +kernel) (by decide +kernel) (by decide +kernel) (by decide +kernel)
theorem kf33 : kindIs ";" "\n" false := kO _ _ _ (by decide +kernel) (by decide +kernel) (by decide +kernel) (by decide +kernel)
theorem c1_7 {a b x y z : Str} (ha : Wd a) (hb : Wd b) (hx : Wd x) (hy : Wd y) (hz : Wd z) (hab : a ≠ b) : BadW tV "line" [[("view" : Str), ("1" : Str)], [("rule" : Str), ("?0" : Str), ("<-" : Str), a, ("?0" : Str), (";" : Str), ("?0" : Str), ("=" : Str), x, (";" : Str)]] 1 9 := (BadW.next (.cons (step_h [] (("view" : Str), "width") [] ltV0 trivial kf14) (.cons (step_h [] (("NUMBER" : Str), "behind width") [] ltV2 trivial kf11) .nil)) (step_h [] (("\n" : Str), "later line") [] ltV3 trivial kf4) (BadW.word [("rule" : Str), ("?0" : Str), ("<-" : Str), a, ("?0" : Str), (";" : Str), ("?0" : Str), ("=" : Str), x] (";" : Str) [] [] _ (.cons (step_h [(("view" : Str), "width")] (("rule" : Str), "first of head") [] ltV1 ⟨kf15, trivial⟩ kf16) (.cons (step_h [] (("TERM" : Str), "more of head") [] ltV4 trivial kf19) (.cons (step_h [(("TERM" : Str), "more of head")] (("<-" : Str), "atom") [] ltV5 ⟨kf17, trivial⟩ kf20) (.cons (step_h [] (("NAME" : Str), "first of atom") [] ltV6 trivial (kNameW ha)) (.cons (step_h [] (("TERM" : Str), "more of atom") [] ltV7 trivial kf19) (.cons (step_h [(("TERM" : Str), "more of atom"), (("," : Str), "atom")] ((";" : Str), "condition") [(("\n" : Str), "later line")] ltV8 ⟨kf22, kf23, trivial⟩ kf24) (.cons (step_h [] (("TERM" : Str), "sign") [] ltV9 trivial kf19) (.cons (step_h [] (("=" : Str), "right side") [(("!=" : Str), "right side")] ltV10 trivial kf32) (.cons (step_h [] (("TERM" : Str), "behind condition") [] ltV11 trivial (kTermW hx)) .nil))))))))) (fail_h [(("," : Str), "condition"), (("\n" : Str), "later line")] ltV12 ⟨kf23, kf33, trivial⟩) rfl))
theorem d1_7 {a b x y z : Str} (ha : Wd a) (hb : Wd b) (hx : Wd x) (hy : Wd y) (hz : Wd z) (hab : a ≠ b) : BadW tV "line" [[("view" : Str), ("7" : Str)], [("view" : Str), ("1" : Str)], [("rule" : Str), ("?0" : Str), ("<-" : Str), a, ("?0" : Str), (";" : Str), ("?0" : Str), ("=" : Str), x, (";" : Str)]] 2 9 := (BadW.next (.cons (step_h [] (("view" : Str), "width") [] ltV0 trivial kf14) (.cons (step_h [] (("NUMBER" : Str), "behind width") [] ltV2 trivial kf18) .nil)) (step_h [] (("\n" : Str), "later line") [] ltV3 trivial kf4) (BadW.next (.cons (step_h [] (("view" : Str), "width") [(("rule" : Str), "first of head")] ltV1 trivial kf14) (.cons (step_h [] (("NUMBER" : Str), "behind width") [] ltV2 trivial kf11) .nil)) (step_h [] (("\n" : Str), "later line") [] ltV3 trivial kf4) (BadW.word [("rule" : Str), ("?0" : Str), ("<-" : Str), a, ("?0" : Str), (";" : Str), ("?0" : Str), ("=" : Str), x] (";" : Str) [] [] _ (.cons (step_h [(("view" : Str), "width")] (("rule" : Str), "first of head") [] ltV1 ⟨kf15, trivial⟩ kf16) (.cons (step_h [] (("TERM" : Str), "more of head") [] ltV4 trivial kf19) (.cons (step_h [(("TERM" : Str), "more of head")] (("<-" : Str), "atom") [] ltV5 ⟨kf17, trivial⟩ kf20) (.cons (step_h [] (("NAME" : Str), "first of atom") [] ltV6 trivial (kNameW ha)) (.cons (step_h [] (("TERM" : Str), "more of atom") [] ltV7 trivial kf19) (.cons (step_h [(("TERM" : Str), "more of atom"), (("," : Str), "atom")] ((";" : Str), "condition") [(("\n" : Str), "later line")] ltV8 ⟨kf22, kf23, trivial⟩ kf24) (.cons (step_h [] (("TERM" : Str), "sign") [] ltV9 trivial kf19) (.cons (step_h [] (("=" : Str), "right side") [(("!=" : Str), "right side")] ltV10 trivial kf32) (.cons (step_h [] (("TERM" : Str), "behind condition") [] ltV11 trivial (kTermW hx)) .nil))))))))) (fail_h [(("," : Str), "condition"), (("\n" : Str), "later line")] ltV12 ⟨kf23, kf33, trivial⟩) rfl)))
theorem kf34 : kindIs "01" "NUMBER" false := kNum _ (.none) _ (by rw [u_read_number]; kernel_rfl) rfl
theorem c1_8 {a b x y z : Str} (ha : Wd a) (hb : Wd b) (hx : Wd x) (hy : Wd y) (hz : Wd z) (hab : a ≠ b) : BadW tV "line" [[("view" : Str), ("1" : Str)], [("view" : Str), ("01" : Str)]] 1 1 := (BadW.next (.cons (step_h [] (("view" : Str), "width") [] ltV0 trivial kf14) (.cons (step_h [] (("NUMBER" : Str), "behind width") [] ltV2 trivial kf11) .nil)) (step_h [] (("\n" : Str), "later line") [] ltV3 trivial kf4) (BadW.word [("view" : Str)] ("01" : Str) [] [] _ (.cons (step_h [] (("view" : Str), "width") [(("rule" : Str), "first of head")] ltV1 trivial kf14) .nil) (fail_h [(("NUMBER" : Str), "behind width")] ltV2 ⟨kf34, trivial⟩) rfl))
theorem d1_8 {a b x y z : Str} (ha : Wd a) (hb : Wd b) (hx : Wd x) (hy : Wd y) (hz : Wd z) (hab : a ≠ b) : BadW tV "line" [[("view" : Str), ("7" : Str)], [("view" : Str), ("1" : Str)], [("view" : Str), ("01" : Str)]] 2 1 := (BadW.next (.cons (step_h [] (("view" : Str), "width") [] ltV0 trivial kf14) (.cons (step_h [] (("NUMBER" : Str), "behind width") [] ltV2 trivial kf18) .nil)) (step_h [] (("\n" : Str), "later line") [] ltV3 trivial kf4) (BadW.next (.cons (step_h [] (("view" : Str), "width") [(("rule" : Str), "first of head")] ltV1 trivial kf14) (.cons (step_h [] (("NUMBER" : Str), "behind width") [] ltV2 trivial kf11) .nil)) (step_h [] (("\n" : Str), "later line") [] ltV3 trivial kf4) (BadW.word [("view" : Str)] ("01" : Str) [] [] _ (.cons (step_h [] (("view" : Str), "width") [(("rule" : Str), "first of head")] ltV1 trivial kf14) .nil) (fail_h [(("NUMBER" : Str), "behind width")] ltV2 ⟨kf34, trivial⟩) rfl)))
theorem c1_9 {a b x y z : Str} (ha : Wd a) (hb : Wd b) (hx : Wd x) (hy : Wd y) (hz : Wd z) (hab : a ≠ b) : BadW tV "line" [[("view" : Str), ("1" : Str)], [("view" : Str), ("1" : Str), ("1" : Str)]] 1 2 := (BadW.next (.cons (step_h [] (("view" : Str), "width") [] ltV0 trivial kf14) (.cons (step_h [] (("NUMBER" : Str), "behind width") [] ltV2 trivial kf11) .nil)) (step_h [] (("\n" : Str), "later line") [] ltV3 trivial kf4) (BadW.word [("view" : Str), ("1" : Str)] ("1" : Str) [] [] _ (.cons (step_h [] (("view" : Str), "width") [(("rule" : Str), "first of head")] ltV1 trivial kf14) (.cons (step_h [] (("NUMBER" : Str), "behind width") [] ltV2 trivial kf11) .nil)) (fail_h [(("\n" : Str), "later line")] ltV3 ⟨kf7, trivial⟩) rfl))
theorem d1_9 {a b x y z : Str} (ha : Wd a) (hb : Wd b) (hx : Wd x) (hy : Wd y) (hz : Wd z) (hab : a ≠ b) : BadW tV "line" [[("view" : Str), ("7" : Str)], [("view" : Str), ("1" : Str)], [("view" : Str), ("1" : Str), ("1" : Str)]] 2 2 := (BadW.next (.cons (step_h [] (("view" : Str), "width") [] ltV0 trivial kf14) (.cons (step_h [] (("NUMBER" : Str), "behind width") [] ltV2 trivial kf18) .nil)) (step_h [] (("\n" : Str), "later line") [] ltV3 trivial kf4) (BadW.next (.cons (step_h [] (("view" : Str), "width") [(("rule" : Str), "first of head")] ltV1 trivial kf14) (.cons (step_h [] (("NUMBER" : Str), "behind width") [] ltV2 trivial kf11) .nil)) (step_h [] (("\n" : Str), "later line") [] ltV3 trivial kf4) (BadW.word [("view" : Str), ("1" : Str)] ("1" : Str) [] [] _ (.cons (step_h [] (("view" : Str), "width") [(("rule" : Str), "first of head")] ltV1 trivial kf14) (.cons (step_h [] (("NUMBER" : Str), "behind width") [] ltV2 trivial kf11) .nil)) (fail_h [(("\n" : Str), "later line")] ltV3 ⟨kf7, trivial⟩) rfl)))
theorem c1_r {a b x y z : Str} (ha : Wd a) (hb : Wd b) (hx : Wd x) (hy : Wd y) (hz : Wd z) (hab : a ≠ b) : BadW tV "line" [[("rule" : Str), ("?0" : Str), ("<-" : Str), a, ("?0" : Str)]] 0 0 := (BadW.word [] ("rule" : Str) [("?0" : Str), ("<-" : Str), a, ("?0" : Str)] [] _ .nil (fail_h [(("view" : Str), "width")] ltV0 ⟨kf15, trivial⟩) rfl)
theorem kf35 : kindIs "may" "may" true := kO _ _ _ (by decide +kernel) (by decide +kernel) (by decide +kernel) (by decide +kernel)
theorem c2_0 {a b x y z : Str} (ha : Wd a) (hb : Wd b) (hx : Wd x) (hy : Wd y) (hz : Wd z) (hab : a ≠ b) : BadW (tW a b) "line" [[("may" : Str), b]] 0 1 := (BadW.word [("may" : Str)] b [] [] _ (.cons (step_h [] (("may" : Str), "name 0") [] (ltW4 a b) trivial kf35) .nil) (fail_h [(a, "named 0")] (ltW5 a b) ⟨(kO b a false (decide_eq_false (Ne.symm hab)) (wd_up ha _ (by decide +kernel)) (wd_up ha _ (by decide +kernel)) (wd_up2 ha _ (by decide +kernel))), trivial⟩) rfl)
theorem kf36 : kindIs "insert" "delete" false := kO _ _ _ (by decide +kernel) (by decide +kernel) (by decide +kernel) (by decide +kernel)
theorem kf37 : kindIs "insert" "insert" true := kO _ _ _ (by decide +kernel) (by decide +kernel) (by decide +kernel) (by decide +kernel)
theorem kf38 : kindIs "delete" "\n" false := kO _ _ _ (by decide +kernel) (by decide +kernel) (by decide +kernel) (by decide +kernel)
theorem c2_1 {a b x y z : Str} (ha : Wd a) (hb : Wd b) (hx : Wd x) (hy : Wd y) (hz : Wd z) (hab : a ≠ b) : BadW (tW a b) "line" [[("may" : Str), a, ("insert" : Str), ("delete" : Str)]] 0 3 := (BadW.word [("may" : Str), a, ("insert" : Str)] ("delete" : Str) [] [] _ (.cons (step_h [] (("may" : Str), "name 0") [] (ltW4 a b) trivial kf35) (.cons (step_h [] (a, "named 0") [] (ltW5 a b) trivial (kX ha)) (.cons (step_h [(("delete" : Str), "deleting 0")] (("insert" : Str), "inserting 0") [(("\n" : Str), "line 1")] (ltW6 a b) ⟨kf36, trivial⟩ kf37) .nil))) (fail_h [(("\n" : Str), "line 1")] (ltW8 a b) ⟨kf38, trivial⟩) rfl)
theorem kf39 : kindIs "delete" "delete" true := kO _ _ _ (by decide +kernel) (by decide +kernel) (by decide +kernel) (by decide +kernel)
theorem kf40 : kindIs "delete" "insert" false := kO _ _ _ (by decide +kernel) (by decide +kernel) (by decide +kernel) (by decide +kernel)
theorem c2_2 {a b x y z : Str} (ha : Wd a) (hb : Wd b) (hx : Wd x) (hy : Wd y) (hz : Wd z) (hab : a ≠ b) : BadW (tW a b) "line" [[("may" : Str), a, ("delete" : Str), ("delete" : Str)]] 0 3 := (BadW.word [("may" : Str), a, ("delete" : Str)] ("delete" : Str) [] [] _ (.cons (step_h [] (("may" : Str), "name 0") [] (ltW4 a b) trivial kf35) (.cons (step_h [] (a, "named 0") [] (ltW5 a b) trivial (kX ha)) (.cons (step_h [] (("delete" : Str), "deleting 0") [(("insert" : Str), "inserting 0"), (("\n" : Str), "line 1")] (ltW6 a b) trivial kf39) .nil))) (fail_h [(("insert" : Str), "inserting 0"), (("\n" : Str), "line 1")] (ltW7 a b) ⟨kf40, kf38, trivial⟩) rfl)
theorem kf41 : kindIs "add" "may" false := kO _ _ _ (by decide +kernel) (by decide +kernel) (by decide +kernel) (by decide +kernel)
theorem c2_3 {a b x y z : Str} (ha : Wd a) (hb : Wd b) (hx : Wd x) (hy : Wd y) (hz : Wd z) (hab : a ≠ b) : BadW (tW a b) "line" [[("add" : Str), ("0" : Str), x]] 0 0 := (BadW.word [] ("add" : Str) [("0" : Str), x] [] _ .nil (fail_h [(("may" : Str), "name 0")] (ltW4 a b) ⟨kf41, trivial⟩) rfl)
theorem kf42 : kindIs "\n" "delete" false := kO _ _ _ (by decide +kernel) (by decide +kernel) (by decide +kernel) (by decide +kernel)
theorem kf43 : kindIs "\n" "insert" false := kO _ _ _ (by decide +kernel) (by decide +kernel) (by decide +kernel) (by decide +kernel)
theorem kf44 : kindIs "may" "add" false := kO _ _ _ (by decide +kernel) (by decide +kernel) (by decide +kernel) (by decide +kernel)
theorem kf45 : kindIs "may" "remove" false := kO _ _ _ (by decide +kernel) (by decide +kernel) (by decide +kernel) (by decide +kernel)
theorem c2_4 {a b x y z : Str} (ha : Wd a) (hb : Wd b) (hx : Wd x) (hy : Wd y) (hz : Wd z) (hab : a ≠ b) : BadW (tW a b) "line" [[("may" : Str), a], [("may" : Str), b, ("delete" : Str)], [("may" : Str), a]] 2 0 := (BadW.next (.cons (step_h [] (("may" : Str), "name 0") [] (ltW4 a b) trivial kf35) (.cons (step_h [] (a, "named 0") [] (ltW5 a b) trivial (kX ha)) .nil)) (step_h [(("delete" : Str), "deleting 0"), (("insert" : Str), "inserting 0")] (("\n" : Str), "line 1") [] (ltW6 a b) ⟨kf42, kf43, trivial⟩ kf4) (BadW.next (.cons (step_h [] (("may" : Str), "name 1") [] (ltW9 a b) trivial kf35) (.cons (step_h [] (b, "named 1") [] (ltW10 a b) trivial (kX hb)) (.cons (step_h [] (("delete" : Str), "deleting 1") [(("insert" : Str), "inserting 1"), (("\n" : Str), "edit")] (ltW11 a b) trivial kf39) .nil))) (step_h [(("insert" : Str), "inserting 1")] (("\n" : Str), "edit") [] (ltW12 a b) ⟨kf43, trivial⟩ kf4) (BadW.word [] ("may" : Str) [a] [] _ .nil (fail_h [(("add" : Str), "place"), (("remove" : Str), "place")] (ltW0 a b) ⟨kf44, kf45, trivial⟩) rfl)))
theorem kf46 : kindIs "add" "add" true := kO _ _ _ (by decide +kernel) (by decide +kernel) (by decide +kernel) (by decide +kernel)
theorem kf47 : kindIs "one" "NUMBER" false := kNum _ (.none) _ (by rw [u_read_number]; kernel_rfl) rfl
theorem c2_5 {a b x y z : Str} (ha : Wd a) (hb : Wd b) (hx : Wd x) (hy : Wd y) (hz : Wd z) (hab : a ≠ b) : BadW (tW a b) "line" [[("may" : Str), a], [("may" : Str), b, ("delete" : Str)], [("add" : Str), ("one" : Str), x]] 2 1 := (BadW.next (.cons (step_h [] (("may" : Str), "name 0") [] (ltW4 a b) trivial kf35) (.cons (step_h [] (a, "named 0") [] (ltW5 a b) trivial (kX ha)) .nil)) (step_h [(("delete" : Str), "deleting 0"), (("insert" : Str), "inserting 0")] (("\n" : Str), "line 1") [] (ltW6 a b) ⟨kf42, kf43, trivial⟩ kf4) (BadW.next (.cons (step_h [] (("may" : Str), "name 1") [] (ltW9 a b) trivial kf35) (.cons (step_h [] (b, "named 1") [] (ltW10 a b) trivial (kX hb)) (.cons (step_h [] (("delete" : Str), "deleting 1") [(("insert" : Str), "inserting 1"), (("\n" : Str), "edit")] (ltW11 a b) trivial kf39) .nil))) (step_h [(("insert" : Str), "inserting 1")] (("\n" : Str), "edit") [] (ltW12 a b) ⟨kf43, trivial⟩ kf4) (BadW.word [("add" : Str)] ("one" : Str) [x] [] _ (.cons (step_h [] (("add" : Str), "place") [(("remove" : Str), "place")] (ltW0 a b) trivial kf46) .nil) (fail_h [(("NUMBER" : Str), "first word")] (ltW1 a b) ⟨kf47, trivial⟩) rfl)))
theorem c2_6 {a b x y z : Str} (ha : Wd a) (hb : Wd b) (hx : Wd x) (hy : Wd y) (hz : Wd z) (hab : a ≠ b) : BadW (tW a b) "line" [[("may" : Str), a], [("may" : Str), a]] 1 1 := (BadW.next (.cons (step_h [] (("may" : Str), "name 0") [] (ltW4 a b) trivial kf35) (.cons (step_h [] (a, "named 0") [] (ltW5 a b) trivial (kX ha)) .nil)) (step_h [(("delete" : Str), "deleting 0"), (("insert" : Str), "inserting 0")] (("\n" : Str), "line 1") [] (ltW6 a b) ⟨kf42, kf43, trivial⟩ kf4) (BadW.word [("may" : Str)] a [] [] _ (.cons (step_h [] (("may" : Str), "name 1") [] (ltW9 a b) trivial kf35) .nil) (fail_h [(b, "named 1")] (ltW10 a b) ⟨(kO a b false (decide_eq_false hab) (wd_up hb _ (by decide +kernel)) (wd_up hb _ (by decide +kernel)) (wd_up2 hb _ (by decide +kernel))), trivial⟩) rfl))
theorem kf48 : kindIs "remove" "add" false := kO _ _ _ (by decide +kernel) (by decide +kernel) (by decide +kernel) (by decide +kernel)
theorem kf49 : kindIs "remove" "remove" true := kO _ _ _ (by decide +kernel) (by decide +kernel) (by decide +kernel) (by decide +kernel)
theorem kf50 : kindIs "00" "NUMBER" false := kNum _ (.none) _ (by rw [u_read_number]; kernel_rfl) rfl
theorem c2_7 {a b x y z : Str} (ha : Wd a) (hb : Wd b) (hx : Wd x) (hy : Wd y) (hz : Wd z) (hab : a ≠ b) : BadW (tW a b) "line" [[("may" : Str), a], [("may" : Str), b, ("delete" : Str)], [("remove" : Str), ("00" : Str), x]] 2 1 := (BadW.next (.cons (step_h [] (("may" : Str), "name 0") [] (ltW4 a b) trivial kf35) (.cons (step_h [] (a, "named 0") [] (ltW5 a b) trivial (kX ha)) .nil)) (step_h [(("delete" : Str), "deleting 0"), (("insert" : Str), "inserting 0")] (("\n" : Str), "line 1") [] (ltW6 a b) ⟨kf42, kf43, trivial⟩ kf4) (BadW.next (.cons (step_h [] (("may" : Str), "name 1") [] (ltW9 a b) trivial kf35) (.cons (step_h [] (b, "named 1") [] (ltW10 a b) trivial (kX hb)) (.cons (step_h [] (("delete" : Str), "deleting 1") [(("insert" : Str), "inserting 1"), (("\n" : Str), "edit")] (ltW11 a b) trivial kf39) .nil))) (step_h [(("insert" : Str), "inserting 1")] (("\n" : Str), "edit") [] (ltW12 a b) ⟨kf43, trivial⟩ kf4) (BadW.word [("remove" : Str)] ("00" : Str) [x] [] _ (.cons (step_h [(("add" : Str), "place")] (("remove" : Str), "place") [] (ltW0 a b) ⟨kf48, trivial⟩ kf49) .nil) (fail_h [(("NUMBER" : Str), "first word")] (ltW1 a b) ⟨kf50, trivial⟩) rfl)))
theorem kf51 : kindIs "0" "NUMBER" true := kNum _ (.int 0) _ (by rw [u_read_number]; kernel_rfl) rfl
theorem c2_8 {a b x y z : Str} (ha : Wd a) (hb : Wd b) (hx : Wd x) (hy : Wd y) (hz : Wd z) (hab : a ≠ b) : BadW (tW a b) "line" [[("may" : Str), a], [("may" : Str), b, ("delete" : Str)], [("remove" : Str), ("0" : Str)]] 2 2 := (BadW.next (.cons (step_h [] (("may" : Str), "name 0") [] (ltW4 a b) trivial kf35) (.cons (step_h [] (a, "named 0") [] (ltW5 a b) trivial (kX ha)) .nil)) (step_h [(("delete" : Str), "deleting 0"), (("insert" : Str), "inserting 0")] (("\n" : Str), "line 1") [] (ltW6 a b) ⟨kf42, kf43, trivial⟩ kf4) (BadW.next (.cons (step_h [] (("may" : Str), "name 1") [] (ltW9 a b) trivial kf35) (.cons (step_h [] (b, "named 1") [] (ltW10 a b) trivial (kX hb)) (.cons (step_h [] (("delete" : Str), "deleting 1") [(("insert" : Str), "inserting 1"), (("\n" : Str), "edit")] (ltW11 a b) trivial kf39) .nil))) (step_h [(("insert" : Str), "inserting 1")] (("\n" : Str), "edit") [] (ltW12 a b) ⟨kf43, trivial⟩ kf4) (BadW.stop [("remove" : Str), ("0" : Str)] [] _ (.cons (step_h [(("add" : Str), "place")] (("remove" : Str), "place") [] (ltW0 a b) ⟨kf48, trivial⟩ kf49) (.cons (step_h [] (("NUMBER" : Str), "first word") [] (ltW1 a b) trivial kf51) .nil)) (fail_h [(("NAME" : Str), "more words")] (ltW2 a b) ⟨kf31, trivial⟩) rfl)))
theorem c3_0 {a b x y z : Str} (ha : Wd a) (hb : Wd b) (hx : Wd x) (hy : Wd y) (hz : Wd z) (hab : a ≠ b) : BadW tC "line" [[("insert" : Str), a, x], [("delete" : Str), a, x]] 1 0 := (BadW.next (.cons (step_h [(("delete" : Str), "deleted")] (("insert" : Str), "inserted") [] ltC0 ⟨kf36, trivial⟩ kf37) (.cons (step_h [] (("NAME" : Str), "first inserted") [] ltC5 trivial (kNameW ha)) (.cons (step_h [] (("NAME" : Str), "more inserted") [] ltC6 trivial (kNameW hx)) .nil))) (step_h [(("NAME" : Str), "more inserted")] (("\n" : Str), "later line") [] ltC7 ⟨kf31, trivial⟩ kf4) (BadW.word [] ("delete" : Str) [a, x] [] _ .nil (fail_h [(("insert" : Str), "inserted")] ltC4 ⟨kf40, trivial⟩) rfl))
theorem kf52 : kindIs "nosuchtable" "NAME" true := kName _ _ (by decide +kernel)
theorem d3_0 {a b x y z : Str} (ha : Wd a) (hb : Wd b) (hx : Wd x) (hy : Wd y) (hz : Wd z) (hab : a ≠ b) : BadW tC "line" [[("delete" : Str), ("nosuchtable" : Str), y], [("insert" : Str), a, x], [("delete" : Str), a, x]] 2 0 := (BadW.next (.cons (step_h [] (("delete" : Str), "deleted") [(("insert" : Str), "inserted")] ltC0 trivial kf39) (.cons (step_h [] (("NAME" : Str), "first deleted") [] ltC1 trivial kf52) (.cons (step_h [] (("NAME" : Str), "more deleted") [] ltC2 trivial (kNameW hy)) .nil))) (step_h [(("NAME" : Str), "more deleted")] (("\n" : Str), "line") [] ltC3 ⟨kf31, trivial⟩ kf4) (BadW.next (.cons (step_h [(("delete" : Str), "deleted")] (("insert" : Str), "inserted") [] ltC0 ⟨kf36, trivial⟩ kf37) (.cons (step_h [] (("NAME" : Str), "first inserted") [] ltC5 trivial (kNameW ha)) (.cons (step_h [] (("NAME" : Str), "more inserted") [] ltC6 trivial (kNameW hx)) .nil))) (step_h [(("NAME" : Str), "more inserted")] (("\n" : Str), "later line") [] ltC7 ⟨kf31, trivial⟩ kf4) (BadW.word [] ("delete" : Str) [a, x] [] _ .nil (fail_h [(("insert" : Str), "inserted")] ltC4 ⟨kf40, trivial⟩) rfl)))
theorem kf53 : kindIs "remove" "delete" false := kO _ _ _ (by decide +kernel) (by decide +kernel) (by decide +kernel) (by decide +kernel)
theorem kf54 : kindIs "remove" "insert" false := kO _ _ _ (by decide +kernel) (by decide +kernel) (by decide +kernel) (by decide +kernel)
theorem c3_1 {a b x y z : Str} (ha : Wd a) (hb : Wd b) (hx : Wd x) (hy : Wd y) (hz : Wd z) (hab : a ≠ b) : BadW tC "line" [[("remove" : Str), a, x]] 0 0 := (BadW.word [] ("remove" : Str) [a, x] [] _ .nil (fail_h [(("delete" : Str), "deleted"), (("insert" : Str), "inserted")] ltC0 ⟨kf53, kf54, trivial⟩) rfl)
theorem d3_1 {a b x y z : Str} (ha : Wd a) (hb : Wd b) (hx : Wd x) (hy : Wd y) (hz : Wd z) (hab : a ≠ b) : BadW tC "line" [[("delete" : Str), ("nosuchtable" : Str), y], [("remove" : Str), a, x]] 1 0 := (BadW.next (.cons (step_h [] (("delete" : Str), "deleted") [(("insert" : Str), "inserted")] ltC0 trivial kf39) (.cons (step_h [] (("NAME" : Str), "first deleted") [] ltC1 trivial kf52) (.cons (step_h [] (("NAME" : Str), "more deleted") [] ltC2 trivial (kNameW hy)) .nil))) (step_h [(("NAME" : Str), "more deleted")] (("\n" : Str), "line") [] ltC3 ⟨kf31, trivial⟩ kf4) (BadW.word [] ("remove" : Str) [a, x] [] _ .nil (fail_h [(("delete" : Str), "deleted"), (("insert" : Str), "inserted")] ltC0 ⟨kf53, kf54, trivial⟩) rfl))
theorem c3_2 {a b x y z : Str} (ha : Wd a) (hb : Wd b) (hx : Wd x) (hy : Wd y) (hz : Wd z) (hab : a ≠ b) : BadW tC "line" [[("delete" : Str), a, x], [("insert" : Str), a, x], [("delete" : Str), a, x]] 2 0 := (BadW.next (.cons (step_h [] (("delete" : Str), "deleted") [(("insert" : Str), "inserted")] ltC0 trivial kf39) (.cons (step_h [] (("NAME" : Str), "first deleted") [] ltC1 trivial (kNameW ha)) (.cons (step_h [] (("NAME" : Str), "more deleted") [] ltC2 trivial (kNameW hx)) .nil))) (step_h [(("NAME" : Str), "more deleted")] (("\n" : Str), "line") [] ltC3 ⟨kf31, trivial⟩ kf4) (BadW.next (.cons (step_h [(("delete" : Str), "deleted")] (("insert" : Str), "inserted") [] ltC0 ⟨kf36, trivial⟩ kf37) (.cons (step_h [] (("NAME" : Str), "first inserted") [] ltC5 trivial (kNameW ha)) (.cons (step_h [] (("NAME" : Str), "more inserted") [] ltC6 trivial (kNameW hx)) .nil))) (step_h [(("NAME" : Str), "more inserted")] (("\n" : Str), "later line") [] ltC7 ⟨kf31, trivial⟩ kf4) (BadW.word [] ("delete" : Str) [a, x] [] _ .nil (fail_h [(("insert" : Str), "inserted")] ltC4 ⟨kf40, trivial⟩) rfl)))
theorem d3_2 {a b x y z : Str} (ha : Wd a) (hb : Wd b) (hx : Wd x) (hy : Wd y) (hz : Wd z) (hab : a ≠ b) : BadW tC "line" [[("delete" : Str), ("nosuchtable" : Str), y], [("delete" : Str), a, x], [("insert" : Str), a, x], [("delete" : Str), a, x]] 3 0 := (BadW.next (.cons (step_h [] (("delete" : Str), "deleted") [(("insert" : Str), "inserted")] ltC0 trivial kf39) (.cons (step_h [] (("NAME" : Str), "first deleted") [] ltC1 trivial kf52) (.cons (step_h [] (("NAME" : Str), "more deleted") [] ltC2 trivial (kNameW hy)) .nil))) (step_h [(("NAME" : Str), "more deleted")] (("\n" : Str), "line") [] ltC3 ⟨kf31, trivial⟩ kf4) (BadW.next (.cons (step_h [] (("delete" : Str), "deleted") [(("insert" : Str), "inserted")] ltC0 trivial kf39) (.cons (step_h [] (("NAME" : Str), "first deleted") [] ltC1 trivial (kNameW ha)) (.cons (step_h [] (("NAME" : Str), "more deleted") [] ltC2 trivial (kNameW hx)) .nil))) (step_h [(("NAME" : Str), "more deleted")] (("\n" : Str), "line") [] ltC3 ⟨kf31, trivial⟩ kf4) (BadW.next (.cons (step_h [(("delete" : Str), "deleted")] (("insert" : Str), "inserted") [] ltC0 ⟨kf36, trivial⟩ kf37) (.cons (step_h [] (("NAME" : Str), "first inserted") [] ltC5 trivial (kNameW ha)) (.cons (step_h [] (("NAME" : Str), "more inserted") [] ltC6 trivial (kNameW hx)) .nil))) (step_h [(("NAME" : Str), "more inserted")] (("\n" : Str), "later line") [] ltC7 ⟨kf31, trivial⟩ kf4) (BadW.word [] ("delete" : Str) [a, x] [] _ .nil (fail_h [(("insert" : Str), "inserted")] ltC4 ⟨kf40, trivial⟩) rfl))))
theorem kf55 : kindIs "delete" "NAME" true := kName _ _ (by decide +kernel)
theorem kf56 : kindIs "?" "insert" false := kO _ _ _ (by decide +kernel) (by decide +kernel) (by decide +kernel) (by decide +kernel)
theorem c3_3 {a b x y z : Str} (ha : Wd a) (hb : Wd b) (hx : Wd x) (hy : Wd y) (hz : Wd z) (hab : a ≠ b) : BadW tC "line" [[("insert" : Str), ("delete" : Str), a, x], [("?" : Str)]] 1 0 := (BadW.next (.cons (step_h [(("delete" : Str), "deleted")] (("insert" : Str), "inserted") [] ltC0 ⟨kf36, trivial⟩ kf37) (.cons (step_h [] (("NAME" : Str), "first inserted") [] ltC5 trivial kf55) (.cons (step_h [] (("NAME" : Str), "more inserted") [] ltC6 trivial (kNameW ha)) (.cons (step_h [] (("NAME" : Str), "more inserted") [(("\n" : Str), "later line")] ltC7 trivial (kNameW hx)) .nil)))) (step_h [(("NAME" : Str), "more inserted")] (("\n" : Str), "later line") [] ltC7 ⟨kf31, trivial⟩ kf4) (BadW.word [] ("?" : Str) [] [] _ .nil (fail_h [(("insert" : Str), "inserted")] ltC4 ⟨kf56, trivial⟩) rfl))
theorem d3_3 {a b x y z : Str} (ha : Wd a) (hb : Wd b) (hx : Wd x) (hy : Wd y) (hz : Wd z) (hab : a ≠ b) : BadW tC "line" [[("delete" : Str), ("nosuchtable" : Str), y], [("insert" : Str), ("delete" : Str), a, x], [("?" : Str)]] 2 0 := (BadW.next (.cons (step_h [] (("delete" : Str), "deleted") [(("insert" : Str), "inserted")] ltC0 trivial kf39) (.cons (step_h [] (("NAME" : Str), "first deleted") [] ltC1 trivial kf52) (.cons (step_h [] (("NAME" : Str), "more deleted") [] ltC2 trivial (kNameW hy)) .nil))) (step_h [(("NAME" : Str), "more deleted")] (("\n" : Str), "line") [] ltC3 ⟨kf31, trivial⟩ kf4) (BadW.next (.cons (step_h [(("delete" : Str), "deleted")] (("insert" : Str), "inserted") [] ltC0 ⟨kf36, trivial⟩ kf37) (.cons (step_h [] (("NAME" : Str), "first inserted") [] ltC5 trivial kf55) (.cons (step_h [] (("NAME" : Str), "more inserted") [] ltC6 trivial (kNameW ha)) (.cons (step_h [] (("NAME" : Str), "more inserted") [(("\n" : Str), "later line")] ltC7 trivial (kNameW hx)) .nil)))) (step_h [(("NAME" : Str), "more inserted")] (("\n" : Str), "later line") [] ltC7 ⟨kf31, trivial⟩ kf4) (BadW.word [] ("?" : Str) [] [] _ .nil (fail_h [(("insert" : Str), "inserted")] ltC4 ⟨kf56, trivial⟩) rfl)))
theorem kf57 : kindIs "?0" "NAME" false := kName _ _ (by decide +kernel)
theorem kf58 : kindIs "?0" "\n" false := kO _ _ _ (by decide +kernel) (by decide +kernel) (by decide +kernel) (by decide +kernel)
theorem cF {a b x y z : Str} (ha : Wd a) (hb : Wd b) (hx : Wd x) (hy : Wd y) (hz : Wd z) (hab : a ≠ b) : BadW tF "line" [[b, x], [a, y, ("?0" : Str)]] 1 2 := (BadW.next (.cons (step_h [] (("NAME" : Str), "first word") [] ltF0 trivial (kNameW hb)) (.cons (step_h [] (("NAME" : Str), "more words") [] ltF1 trivial (kNameW hx)) .nil)) (step_h [(("NAME" : Str), "more words")] (("\n" : Str), "line") [] ltF2 ⟨kf31, trivial⟩ kf4) (BadW.word [a, y] ("?0" : Str) [] [] _ (.cons (step_h [] (("NAME" : Str), "first word") [] ltF0 trivial (kNameW ha)) (.cons (step_h [] (("NAME" : Str), "more words") [] ltF1 trivial (kNameW hy)) .nil)) (fail_h [(("NAME" : Str), "more words"), (("\n" : Str), "line")] ltF2 ⟨kf57, kf58, trivial⟩) rfl))
theorem ok0 : WOk "," := lit_ok _ (by decide +kernel)
theorem ok1 : WOk "0" := lit_ok _ (by decide +kernel)
theorem ok2 : WOk "00" := lit_ok _ (by decide +kernel)
theorem ok3 : WOk "01" := lit_ok _ (by decide +kernel)
theorem ok4 : WOk "02" := lit_ok _ (by decide +kernel)
theorem ok5 : WOk "1" := lit_ok _ (by decide +kernel)
theorem ok6 : WOk "1234567" := lit_ok _ (by decide +kernel)
theorem ok7 : WOk "2" := lit_ok _ (by decide +kernel)
theorem ok8 : WOk "7" := lit_ok _ (by decide +kernel)
theorem ok9 : WOk "9" := lit_ok _ (by decide +kernel)
theorem ok10 : WOk ";" := lit_ok _ (by decide +kernel)
theorem ok11 : WOk "<-" := lit_ok _ (by decide +kernel)
theorem ok12 : WOk "=" := lit_ok _ (by decide +kernel)
theorem ok13 : WOk "?" := lit_ok _ (by decide +kernel)
theorem ok14 : WOk "?0" := lit_ok _ (by decide +kernel)
theorem ok15 : WOk "?1" := lit_ok _ (by decide +kernel)
theorem ok16 : WOk "add" := lit_ok _ (by decide +kernel)
theorem ok17 : WOk "delete" := lit_ok _ (by decide +kernel)
theorem ok18 : WOk "insert" := lit_ok _ (by decide +kernel)
theorem ok19 : WOk "key" := lit_ok _ (by decide +kernel)
theorem ok20 : WOk "may" := lit_ok _ (by decide +kernel)
theorem ok21 : WOk "nosuchtable" := lit_ok _ (by decide +kernel)
theorem ok22 : WOk "one" := lit_ok _ (by decide +kernel)
theorem ok23 : WOk "remove" := lit_ok _ (by decide +kernel)
theorem ok24 : WOk "rule" := lit_ok _ (by decide +kernel)
theorem ok25 : WOk "table" := lit_ok _ (by decide +kernel)
theorem ok26 : WOk "view" := lit_ok _ (by decide +kernel)
theorem ok27 : WOk "x" := lit_ok _ (by decide +kernel)
def AllOk : List Str → Prop
  | [] => True
  | w :: r => WOk w ∧ AllOk r
theorem allOk_mem : ∀ {ws : List Str}, AllOk ws → ∀ w ∈ ws, WOk w
  | _ :: _, h, w, hw => (List.mem_cons.mp hw).elim (fun e => e ▸ h.1) fun m => allOk_mem h.2 w m
theorem cs13 : ∀ ws : List Str, (∀ w ∈ ws, WOk w) → cs ws ≤ 13 * ws.length
  | [], _ => Nat.le_refl _
  | w :: r, h => by
    have := cs13 r fun z hz => h z (List.mem_cons_of_mem _ hz)
    have := (h w List.mem_cons_self).len
    show w.length + 1 + cs r ≤ 13 * (r.length + 1)
    omega
theorem wsK (w : Str) (r : List Str) (h : AllOk (w :: r)) (hl : (w :: r).length ≤ 14) : WsK (w :: r) := ⟨List.cons_ne_nil _ _, allOk_mem h, by have := cs13 _ (allOk_mem h); omega⟩
def AllK : List (List Str) → Prop
  | [] => True
  | w :: r => WsK w ∧ AllK r
theorem allK_mem : ∀ {wss : List (List Str)}, AllK wss → ∀ w ∈ wss, WsK w
  | _ :: _, h, w, hw => (List.mem_cons.mp hw).elim (fun e => e ▸ h.1) fun m => allK_mem h.2 w m
theorem k0_0 {a b x y z : Str} (ha : Wd a) (hb : Wd b) (hx : Wd x) (hy : Wd y) (hz : Wd z) (hab : a ≠ b) : AllK [[("table" : Str), a, ("key" : Str)]] := ⟨wsK _ _ ⟨ok25, (wd_ok ha), ok19, trivial⟩ (by simp), trivial⟩
theorem e0_0 {a b x y z : Str} (ha : Wd a) (hb : Wd b) (hx : Wd x) (hy : Wd y) (hz : Wd z) (hab : a ≠ b) : AllK [[("table" : Str), b, ("9" : Str)], [("table" : Str), a, ("key" : Str)]] := ⟨wsK _ _ ⟨ok25, (wd_ok hb), ok9, trivial⟩ (by simp), wsK _ _ ⟨ok25, (wd_ok ha), ok19, trivial⟩ (by simp), trivial⟩
theorem k0_1 {a b x y z : Str} (ha : Wd a) (hb : Wd b) (hx : Wd x) (hy : Wd y) (hz : Wd z) (hab : a ≠ b) : AllK [[("table" : Str), a, ("2" : Str), ("1" : Str)]] := ⟨wsK _ _ ⟨ok25, (wd_ok ha), ok7, ok5, trivial⟩ (by simp), trivial⟩
theorem e0_1 {a b x y z : Str} (ha : Wd a) (hb : Wd b) (hx : Wd x) (hy : Wd y) (hz : Wd z) (hab : a ≠ b) : AllK [[("table" : Str), b, ("9" : Str)], [("table" : Str), a, ("2" : Str), ("1" : Str)]] := ⟨wsK _ _ ⟨ok25, (wd_ok hb), ok9, trivial⟩ (by simp), wsK _ _ ⟨ok25, (wd_ok ha), ok7, ok5, trivial⟩ (by simp), trivial⟩
theorem k0_2 {a b x y z : Str} (ha : Wd a) (hb : Wd b) (hx : Wd x) (hy : Wd y) (hz : Wd z) (hab : a ≠ b) : AllK [[("table" : Str), a, ("02" : Str)]] := ⟨wsK _ _ ⟨ok25, (wd_ok ha), ok4, trivial⟩ (by simp), trivial⟩
theorem e0_2 {a b x y z : Str} (ha : Wd a) (hb : Wd b) (hx : Wd x) (hy : Wd y) (hz : Wd z) (hab : a ≠ b) : AllK [[("table" : Str), b, ("9" : Str)], [("table" : Str), a, ("02" : Str)]] := ⟨wsK _ _ ⟨ok25, (wd_ok hb), ok9, trivial⟩ (by simp), wsK _ _ ⟨ok25, (wd_ok ha), ok4, trivial⟩ (by simp), trivial⟩
theorem k0_3 {a b x y z : Str} (ha : Wd a) (hb : Wd b) (hx : Wd x) (hy : Wd y) (hz : Wd z) (hab : a ≠ b) : AllK [[("table" : Str), a, ("2" : Str), ("key" : Str), ("x" : Str)]] := ⟨wsK _ _ ⟨ok25, (wd_ok ha), ok7, ok19, ok27, trivial⟩ (by simp), trivial⟩
theorem e0_3 {a b x y z : Str} (ha : Wd a) (hb : Wd b) (hx : Wd x) (hy : Wd y) (hz : Wd z) (hab : a ≠ b) : AllK [[("table" : Str), b, ("9" : Str)], [("table" : Str), a, ("2" : Str), ("key" : Str), ("x" : Str)]] := ⟨wsK _ _ ⟨ok25, (wd_ok hb), ok9, trivial⟩ (by simp), wsK _ _ ⟨ok25, (wd_ok ha), ok7, ok19, ok27, trivial⟩ (by simp), trivial⟩
theorem k0_4 {a b x y z : Str} (ha : Wd a) (hb : Wd b) (hx : Wd x) (hy : Wd y) (hz : Wd z) (hab : a ≠ b) : AllK [[("table" : Str), a, ("2" : Str), ("key" : Str), ("1" : Str), ("1" : Str)]] := ⟨wsK _ _ ⟨ok25, (wd_ok ha), ok7, ok19, ok5, ok5, trivial⟩ (by simp), trivial⟩
theorem e0_4 {a b x y z : Str} (ha : Wd a) (hb : Wd b) (hx : Wd x) (hy : Wd y) (hz : Wd z) (hab : a ≠ b) : AllK [[("table" : Str), b, ("9" : Str)], [("table" : Str), a, ("2" : Str), ("key" : Str), ("1" : Str), ("1" : Str)]] := ⟨wsK _ _ ⟨ok25, (wd_ok hb), ok9, trivial⟩ (by simp), wsK _ _ ⟨ok25, (wd_ok ha), ok7, ok19, ok5, ok5, trivial⟩ (by simp), trivial⟩
theorem k0_5 {a b x y z : Str} (ha : Wd a) (hb : Wd b) (hx : Wd x) (hy : Wd y) (hz : Wd z) (hab : a ≠ b) : AllK [[("view" : Str), a, ("2" : Str)]] := ⟨wsK _ _ ⟨ok26, (wd_ok ha), ok7, trivial⟩ (by simp), trivial⟩
theorem e0_5 {a b x y z : Str} (ha : Wd a) (hb : Wd b) (hx : Wd x) (hy : Wd y) (hz : Wd z) (hab : a ≠ b) : AllK [[("table" : Str), b, ("9" : Str)], [("view" : Str), a, ("2" : Str)]] := ⟨wsK _ _ ⟨ok25, (wd_ok hb), ok9, trivial⟩ (by simp), wsK _ _ ⟨ok26, (wd_ok ha), ok7, trivial⟩ (by simp), trivial⟩
theorem k0_6 {a b x y z : Str} (ha : Wd a) (hb : Wd b) (hx : Wd x) (hy : Wd y) (hz : Wd z) (hab : a ≠ b) : AllK [[("table" : Str), a, ("1234567" : Str)]] := ⟨wsK _ _ ⟨ok25, (wd_ok ha), ok6, trivial⟩ (by simp), trivial⟩
theorem e0_6 {a b x y z : Str} (ha : Wd a) (hb : Wd b) (hx : Wd x) (hy : Wd y) (hz : Wd z) (hab : a ≠ b) : AllK [[("table" : Str), b, ("9" : Str)], [("table" : Str), a, ("1234567" : Str)]] := ⟨wsK _ _ ⟨ok25, (wd_ok hb), ok9, trivial⟩ (by simp), wsK _ _ ⟨ok25, (wd_ok ha), ok6, trivial⟩ (by simp), trivial⟩
theorem k1_0 {a b x y z : Str} (ha : Wd a) (hb : Wd b) (hx : Wd x) (hy : Wd y) (hz : Wd z) (hab : a ≠ b) : AllK [[("view" : Str), ("1" : Str)], [("rule" : Str), ("<-" : Str), a, ("?0" : Str)]] := ⟨wsK _ _ ⟨ok26, ok5, trivial⟩ (by simp), wsK _ _ ⟨ok24, ok11, (wd_ok ha), ok14, trivial⟩ (by simp), trivial⟩
theorem e1_0 {a b x y z : Str} (ha : Wd a) (hb : Wd b) (hx : Wd x) (hy : Wd y) (hz : Wd z) (hab : a ≠ b) : AllK [[("view" : Str), ("7" : Str)], [("view" : Str), ("1" : Str)], [("rule" : Str), ("<-" : Str), a, ("?0" : Str)]] := ⟨wsK _ _ ⟨ok26, ok8, trivial⟩ (by simp), wsK _ _ ⟨ok26, ok5, trivial⟩ (by simp), wsK _ _ ⟨ok24, ok11, (wd_ok ha), ok14, trivial⟩ (by simp), trivial⟩
theorem k1_1 {a b x y z : Str} (ha : Wd a) (hb : Wd b) (hx : Wd x) (hy : Wd y) (hz : Wd z) (hab : a ≠ b) : AllK [[("view" : Str), ("1" : Str)], [("rule" : Str), ("?0" : Str), ("<-" : Str), ("," : Str), a]] := ⟨wsK _ _ ⟨ok26, ok5, trivial⟩ (by simp), wsK _ _ ⟨ok24, ok14, ok11, ok0, (wd_ok ha), trivial⟩ (by simp), trivial⟩
theorem e1_1 {a b x y z : Str} (ha : Wd a) (hb : Wd b) (hx : Wd x) (hy : Wd y) (hz : Wd z) (hab : a ≠ b) : AllK [[("view" : Str), ("7" : Str)], [("view" : Str), ("1" : Str)], [("rule" : Str), ("?0" : Str), ("<-" : Str), ("," : Str), a]] := ⟨wsK _ _ ⟨ok26, ok8, trivial⟩ (by simp), wsK _ _ ⟨ok26, ok5, trivial⟩ (by simp), wsK _ _ ⟨ok24, ok14, ok11, ok0, (wd_ok ha), trivial⟩ (by simp), trivial⟩
theorem k1_2 {a b x y z : Str} (ha : Wd a) (hb : Wd b) (hx : Wd x) (hy : Wd y) (hz : Wd z) (hab : a ≠ b) : AllK [[("view" : Str), ("1" : Str)], [("rule" : Str), ("?0" : Str), ("<-" : Str), a, (";" : Str)]] := ⟨wsK _ _ ⟨ok26, ok5, trivial⟩ (by simp), wsK _ _ ⟨ok24, ok14, ok11, (wd_ok ha), ok10, trivial⟩ (by simp), trivial⟩
theorem e1_2 {a b x y z : Str} (ha : Wd a) (hb : Wd b) (hx : Wd x) (hy : Wd y) (hz : Wd z) (hab : a ≠ b) : AllK [[("view" : Str), ("7" : Str)], [("view" : Str), ("1" : Str)], [("rule" : Str), ("?0" : Str), ("<-" : Str), a, (";" : Str)]] := ⟨wsK _ _ ⟨ok26, ok8, trivial⟩ (by simp), wsK _ _ ⟨ok26, ok5, trivial⟩ (by simp), wsK _ _ ⟨ok24, ok14, ok11, (wd_ok ha), ok10, trivial⟩ (by simp), trivial⟩
theorem k1_3 {a b x y z : Str} (ha : Wd a) (hb : Wd b) (hx : Wd x) (hy : Wd y) (hz : Wd z) (hab : a ≠ b) : AllK [[("view" : Str), ("1" : Str)], [("rule" : Str), ("?0" : Str), ("<-" : Str), a, ("?0" : Str), (";" : Str), ("?0" : Str), ("<-" : Str)]] := ⟨wsK _ _ ⟨ok26, ok5, trivial⟩ (by simp), wsK _ _ ⟨ok24, ok14, ok11, (wd_ok ha), ok14, ok10, ok14, ok11, trivial⟩ (by simp), trivial⟩
theorem e1_3 {a b x y z : Str} (ha : Wd a) (hb : Wd b) (hx : Wd x) (hy : Wd y) (hz : Wd z) (hab : a ≠ b) : AllK [[("view" : Str), ("7" : Str)], [("view" : Str), ("1" : Str)], [("rule" : Str), ("?0" : Str), ("<-" : Str), a, ("?0" : Str), (";" : Str), ("?0" : Str), ("<-" : Str)]] := ⟨wsK _ _ ⟨ok26, ok8, trivial⟩ (by simp), wsK _ _ ⟨ok26, ok5, trivial⟩ (by simp), wsK _ _ ⟨ok24, ok14, ok11, (wd_ok ha), ok14, ok10, ok14, ok11, trivial⟩ (by simp), trivial⟩
theorem k1_4 {a b x y z : Str} (ha : Wd a) (hb : Wd b) (hx : Wd x) (hy : Wd y) (hz : Wd z) (hab : a ≠ b) : AllK [[("view" : Str), ("1" : Str)], [("rule" : Str), ("?0" : Str), ("<-" : Str), a, ("?0" : Str), ("," : Str), ("?1" : Str)]] := ⟨wsK _ _ ⟨ok26, ok5, trivial⟩ (by simp), wsK _ _ ⟨ok24, ok14, ok11, (wd_ok ha), ok14, ok0, ok15, trivial⟩ (by simp), trivial⟩
theorem e1_4 {a b x y z : Str} (ha : Wd a) (hb : Wd b) (hx : Wd x) (hy : Wd y) (hz : Wd z) (hab : a ≠ b) : AllK [[("view" : Str), ("7" : Str)], [("view" : Str), ("1" : Str)], [("rule" : Str), ("?0" : Str), ("<-" : Str), a, ("?0" : Str), ("," : Str), ("?1" : Str)]] := ⟨wsK _ _ ⟨ok26, ok8, trivial⟩ (by simp), wsK _ _ ⟨ok26, ok5, trivial⟩ (by simp), wsK _ _ ⟨ok24, ok14, ok11, (wd_ok ha), ok14, ok0, ok15, trivial⟩ (by simp), trivial⟩
theorem k1_5 {a b x y z : Str} (ha : Wd a) (hb : Wd b) (hx : Wd x) (hy : Wd y) (hz : Wd z) (hab : a ≠ b) : AllK [[("view" : Str), ("1" : Str)], [("rule" : Str), ("?0" : Str), ("<-" : Str), a, ("?0" : Str), (";" : Str), ("=" : Str), x]] := ⟨wsK _ _ ⟨ok26, ok5, trivial⟩ (by simp), wsK _ _ ⟨ok24, ok14, ok11, (wd_ok ha), ok14, ok10, ok12, (wd_ok hx), trivial⟩ (by simp), trivial⟩
theorem e1_5 {a b x y z : Str} (ha : Wd a) (hb : Wd b) (hx : Wd x) (hy : Wd y) (hz : Wd z) (hab : a ≠ b) : AllK [[("view" : Str), ("7" : Str)], [("view" : Str), ("1" : Str)], [("rule" : Str), ("?0" : Str), ("<-" : Str), a, ("?0" : Str), (";" : Str), ("=" : Str), x]] := ⟨wsK _ _ ⟨ok26, ok8, trivial⟩ (by simp), wsK _ _ ⟨ok26, ok5, trivial⟩ (by simp), wsK _ _ ⟨ok24, ok14, ok11, (wd_ok ha), ok14, ok10, ok12, (wd_ok hx), trivial⟩ (by simp), trivial⟩
theorem k1_6 {a b x y z : Str} (ha : Wd a) (hb : Wd b) (hx : Wd x) (hy : Wd y) (hz : Wd z) (hab : a ≠ b) : AllK [[("view" : Str), ("1" : Str)], [("rule" : Str), ("?0" : Str), ("<-" : Str), a, ("?0" : Str), ("," : Str)]] := ⟨wsK _ _ ⟨ok26, ok5, trivial⟩ (by simp), wsK _ _ ⟨ok24, ok14, ok11, (wd_ok ha), ok14, ok0, trivial⟩ (by simp), trivial⟩
theorem e1_6 {a b x y z : Str} (ha : Wd a) (hb : Wd b) (hx : Wd x) (hy : Wd y) (hz : Wd z) (hab : a ≠ b) : AllK [[("view" : Str), ("7" : Str)], [("view" : Str), ("1" : Str)], [("rule" : Str), ("?0" : Str), ("<-" : Str), a, ("?0" : Str), ("," : Str)]] := ⟨wsK _ _ ⟨ok26, ok8, trivial⟩ (by simp), wsK _ _ ⟨ok26, ok5, trivial⟩ (by simp), wsK _ _ ⟨ok24, ok14, ok11, (wd_ok ha), ok14, ok0, trivial⟩ (by simp), trivial⟩
theorem k1_7 {a b x y z : Str} (ha : Wd a) (hb : Wd b) (hx : Wd x) (hy : Wd y) (hz : Wd z) (hab : a ≠ b) : AllK [[("view" : Str), ("1" : Str)], [("rule" : Str), ("?0" : Str), ("<-" : Str), a, ("?0" : Str), (";" : Str), ("?0" : Str), ("=" : Str), x, (";" : Str)]] := ⟨wsK _ _ ⟨ok26, ok5, trivial⟩ (by simp), wsK _ _ ⟨ok24, ok14, ok11, (wd_ok ha), ok14, ok10, ok14, ok12, (wd_ok hx), ok10, trivial⟩ (by simp), trivial⟩
theorem e1_7 {a b x y z : Str} (ha : Wd a) (hb : Wd b) (hx : Wd x) (hy : Wd y) (hz : Wd z) (hab : a ≠ b) : AllK [[("view" : Str), ("7" : Str)], [("view" : Str), ("1" : Str)], [("rule" : Str), ("?0" : Str), ("<-" : Str), a, ("?0" : Str), (";" : Str), ("?0" : Str), ("=" : Str), x, (";" : Str)]] := ⟨wsK _ _ ⟨ok26, ok8, trivial⟩ (by simp), wsK _ _ ⟨ok26, ok5, trivial⟩ (by simp), wsK _ _ ⟨ok24, ok14, ok11, (wd_ok ha), ok14, ok10, ok14, ok12, (wd_ok hx), ok10, trivial⟩ (by simp), trivial⟩
theorem k1_8 {a b x y z : Str} (ha : Wd a) (hb : Wd b) (hx : Wd x) (hy : Wd y) (hz : Wd z) (hab : a ≠ b) : AllK [[("view" : Str), ("1" : Str)], [("view" : Str), ("01" : Str)]] := ⟨wsK _ _ ⟨ok26, ok5, trivial⟩ (by simp), wsK _ _ ⟨ok26, ok3, trivial⟩ (by simp), trivial⟩
theorem e1_8 {a b x y z : Str} (ha : Wd a) (hb : Wd b) (hx : Wd x) (hy : Wd y) (hz : Wd z) (hab : a ≠ b) : AllK [[("view" : Str), ("7" : Str)], [("view" : Str), ("1" : Str)], [("view" : Str), ("01" : Str)]] := ⟨wsK _ _ ⟨ok26, ok8, trivial⟩ (by simp), wsK _ _ ⟨ok26, ok5, trivial⟩ (by simp), wsK _ _ ⟨ok26, ok3, trivial⟩ (by simp), trivial⟩
theorem k1_9 {a b x y z : Str} (ha : Wd a) (hb : Wd b) (hx : Wd x) (hy : Wd y) (hz : Wd z) (hab : a ≠ b) : AllK [[("view" : Str), ("1" : Str)], [("view" : Str), ("1" : Str), ("1" : Str)]] := ⟨wsK _ _ ⟨ok26, ok5, trivial⟩ (by simp), wsK _ _ ⟨ok26, ok5, ok5, trivial⟩ (by simp), trivial⟩
theorem e1_9 {a b x y z : Str} (ha : Wd a) (hb : Wd b) (hx : Wd x) (hy : Wd y) (hz : Wd z) (hab : a ≠ b) : AllK [[("view" : Str), ("7" : Str)], [("view" : Str), ("1" : Str)], [("view" : Str), ("1" : Str), ("1" : Str)]] := ⟨wsK _ _ ⟨ok26, ok8, trivial⟩ (by simp), wsK _ _ ⟨ok26, ok5, trivial⟩ (by simp), wsK _ _ ⟨ok26, ok5, ok5, trivial⟩ (by simp), trivial⟩
theorem k1_r {a b x y z : Str} (ha : Wd a) (hb : Wd b) (hx : Wd x) (hy : Wd y) (hz : Wd z) (hab : a ≠ b) : AllK [[("rule" : Str), ("?0" : Str), ("<-" : Str), a, ("?0" : Str)]] := ⟨wsK _ _ ⟨ok24, ok14, ok11, (wd_ok ha), ok14, trivial⟩ (by simp), trivial⟩
theorem k2_0 {a b x y z : Str} (ha : Wd a) (hb : Wd b) (hx : Wd x) (hy : Wd y) (hz : Wd z) (hab : a ≠ b) : AllK [[("may" : Str), b]] := ⟨wsK _ _ ⟨ok20, (wd_ok hb), trivial⟩ (by simp), trivial⟩
theorem k2_1 {a b x y z : Str} (ha : Wd a) (hb : Wd b) (hx : Wd x) (hy : Wd y) (hz : Wd z) (hab : a ≠ b) : AllK [[("may" : Str), a, ("insert" : Str), ("delete" : Str)]] := ⟨wsK _ _ ⟨ok20, (wd_ok ha), ok18, ok17, trivial⟩ (by simp), trivial⟩
theorem k2_2 {a b x y z : Str} (ha : Wd a) (hb : Wd b) (hx : Wd x) (hy : Wd y) (hz : Wd z) (hab : a ≠ b) : AllK [[("may" : Str), a, ("delete" : Str), ("delete" : Str)]] := ⟨wsK _ _ ⟨ok20, (wd_ok ha), ok17, ok17, trivial⟩ (by simp), trivial⟩
theorem k2_3 {a b x y z : Str} (ha : Wd a) (hb : Wd b) (hx : Wd x) (hy : Wd y) (hz : Wd z) (hab : a ≠ b) : AllK [[("add" : Str), ("0" : Str), x]] := ⟨wsK _ _ ⟨ok16, ok1, (wd_ok hx), trivial⟩ (by simp), trivial⟩
theorem k2_4 {a b x y z : Str} (ha : Wd a) (hb : Wd b) (hx : Wd x) (hy : Wd y) (hz : Wd z) (hab : a ≠ b) : AllK [[("may" : Str), a], [("may" : Str), b, ("delete" : Str)], [("may" : Str), a]] := ⟨wsK _ _ ⟨ok20, (wd_ok ha), trivial⟩ (by simp), wsK _ _ ⟨ok20, (wd_ok hb), ok17, trivial⟩ (by simp), wsK _ _ ⟨ok20, (wd_ok ha), trivial⟩ (by simp), trivial⟩
theorem k2_5 {a b x y z : Str} (ha : Wd a) (hb : Wd b) (hx : Wd x) (hy : Wd y) (hz : Wd z) (hab : a ≠ b) : AllK [[("may" : Str), a], [("may" : Str), b, ("delete" : Str)], [("add" : Str), ("one" : Str), x]] := ⟨wsK _ _ ⟨ok20, (wd_ok ha), trivial⟩ (by simp), wsK _ _ ⟨ok20, (wd_ok hb), ok17, trivial⟩ (by simp), wsK _ _ ⟨ok16, ok22, (wd_ok hx), trivial⟩ (by simp), trivial⟩
theorem k2_6 {a b x y z : Str} (ha : Wd a) (hb : Wd b) (hx : Wd x) (hy : Wd y) (hz : Wd z) (hab : a ≠ b) : AllK [[("may" : Str), a], [("may" : Str), a]] := ⟨wsK _ _ ⟨ok20, (wd_ok ha), trivial⟩ (by simp), wsK _ _ ⟨ok20, (wd_ok ha), trivial⟩ (by simp), trivial⟩
theorem k2_7 {a b x y z : Str} (ha : Wd a) (hb : Wd b) (hx : Wd x) (hy : Wd y) (hz : Wd z) (hab : a ≠ b) : AllK [[("may" : Str), a], [("may" : Str), b, ("delete" : Str)], [("remove" : Str), ("00" : Str), x]] := ⟨wsK _ _ ⟨ok20, (wd_ok ha), trivial⟩ (by simp), wsK _ _ ⟨ok20, (wd_ok hb), ok17, trivial⟩ (by simp), wsK _ _ ⟨ok23, ok2, (wd_ok hx), trivial⟩ (by simp), trivial⟩
theorem k2_8 {a b x y z : Str} (ha : Wd a) (hb : Wd b) (hx : Wd x) (hy : Wd y) (hz : Wd z) (hab : a ≠ b) : AllK [[("may" : Str), a], [("may" : Str), b, ("delete" : Str)], [("remove" : Str), ("0" : Str)]] := ⟨wsK _ _ ⟨ok20, (wd_ok ha), trivial⟩ (by simp), wsK _ _ ⟨ok20, (wd_ok hb), ok17, trivial⟩ (by simp), wsK _ _ ⟨ok23, ok1, trivial⟩ (by simp), trivial⟩
theorem k3_0 {a b x y z : Str} (ha : Wd a) (hb : Wd b) (hx : Wd x) (hy : Wd y) (hz : Wd z) (hab : a ≠ b) : AllK [[("insert" : Str), a, x], [("delete" : Str), a, x]] := ⟨wsK _ _ ⟨ok18, (wd_ok ha), (wd_ok hx), trivial⟩ (by simp), wsK _ _ ⟨ok17, (wd_ok ha), (wd_ok hx), trivial⟩ (by simp), trivial⟩
theorem e3_0 {a b x y z : Str} (ha : Wd a) (hb : Wd b) (hx : Wd x) (hy : Wd y) (hz : Wd z) (hab : a ≠ b) : AllK [[("delete" : Str), ("nosuchtable" : Str), y], [("insert" : Str), a, x], [("delete" : Str), a, x]] := ⟨wsK _ _ ⟨ok17, ok21, (wd_ok hy), trivial⟩ (by simp), wsK _ _ ⟨ok18, (wd_ok ha), (wd_ok hx), trivial⟩ (by simp), wsK _ _ ⟨ok17, (wd_ok ha), (wd_ok hx), trivial⟩ (by simp), trivial⟩
theorem k3_1 {a b x y z : Str} (ha : Wd a) (hb : Wd b) (hx : Wd x) (hy : Wd y) (hz : Wd z) (hab : a ≠ b) : AllK [[("remove" : Str), a, x]] := ⟨wsK _ _ ⟨ok23, (wd_ok ha), (wd_ok hx), trivial⟩ (by simp), trivial⟩
theorem e3_1 {a b x y z : Str} (ha : Wd a) (hb : Wd b) (hx : Wd x) (hy : Wd y) (hz : Wd z) (hab : a ≠ b) : AllK [[("delete" : Str), ("nosuchtable" : Str), y], [("remove" : Str), a, x]] := ⟨wsK _ _ ⟨ok17, ok21, (wd_ok hy), trivial⟩ (by simp), wsK _ _ ⟨ok23, (wd_ok ha), (wd_ok hx), trivial⟩ (by simp), trivial⟩
theorem k3_2 {a b x y z : Str} (ha : Wd a) (hb : Wd b) (hx : Wd x) (hy : Wd y) (hz : Wd z) (hab : a ≠ b) : AllK [[("delete" : Str), a, x], [("insert" : Str), a, x], [("delete" : Str), a, x]] := ⟨wsK _ _ ⟨ok17, (wd_ok ha), (wd_ok hx), trivial⟩ (by simp), wsK _ _ ⟨ok18, (wd_ok ha), (wd_ok hx), trivial⟩ (by simp), wsK _ _ ⟨ok17, (wd_ok ha), (wd_ok hx), trivial⟩ (by simp), trivial⟩
theorem e3_2 {a b x y z : Str} (ha : Wd a) (hb : Wd b) (hx : Wd x) (hy : Wd y) (hz : Wd z) (hab : a ≠ b) : AllK [[("delete" : Str), ("nosuchtable" : Str), y], [("delete" : Str), a, x], [("insert" : Str), a, x], [("delete" : Str), a, x]] := ⟨wsK _ _ ⟨ok17, ok21, (wd_ok hy), trivial⟩ (by simp), wsK _ _ ⟨ok17, (wd_ok ha), (wd_ok hx), trivial⟩ (by simp), wsK _ _ ⟨ok18, (wd_ok ha), (wd_ok hx), trivial⟩ (by simp), wsK _ _ ⟨ok17, (wd_ok ha), (wd_ok hx), trivial⟩ (by simp), trivial⟩
theorem k3_3 {a b x y z : Str} (ha : Wd a) (hb : Wd b) (hx : Wd x) (hy : Wd y) (hz : Wd z) (hab : a ≠ b) : AllK [[("insert" : Str), ("delete" : Str), a, x], [("?" : Str)]] := ⟨wsK _ _ ⟨ok18, ok17, (wd_ok ha), (wd_ok hx), trivial⟩ (by simp), wsK _ _ ⟨ok13, trivial⟩ (by simp), trivial⟩
theorem e3_3 {a b x y z : Str} (ha : Wd a) (hb : Wd b) (hx : Wd x) (hy : Wd y) (hz : Wd z) (hab : a ≠ b) : AllK [[("delete" : Str), ("nosuchtable" : Str), y], [("insert" : Str), ("delete" : Str), a, x], [("?" : Str)]] := ⟨wsK _ _ ⟨ok17, ok21, (wd_ok hy), trivial⟩ (by simp), wsK _ _ ⟨ok18, ok17, (wd_ok ha), (wd_ok hx), trivial⟩ (by simp), wsK _ _ ⟨ok13, trivial⟩ (by simp), trivial⟩
theorem kF {a b x y z : Str} (ha : Wd a) (hb : Wd b) (hx : Wd x) (hy : Wd y) (hz : Wd z) (hab : a ≠ b) : AllK [[b, x], [a, y, ("?0" : Str)]] := ⟨wsK _ _ ⟨(wd_ok hb), (wd_ok hx), trivial⟩ (by simp), wsK _ _ ⟨(wd_ok ha), (wd_ok hy), ok14, trivial⟩ (by simp), trivial⟩
def rows0 (a b x y z : Str) : List Pyr.D := [.list [.str "table", .str a, .str "key"], .list [.str "table", .str a, .str "2", .str "1"], .list [.str "table", .str a, .str "02"], .list [.str "table", .str a, .str "2", .str "key", .str "x"], .list [.str "table", .str a, .str "2", .str "key", .str "1", .str "1"], .list [.str "view", .str a, .str "2"], .list [.str "table", .str a, .str "1234567"]]
def plcs0 : List Pyr.D := [.int 2, .int 3, .int 2, .int 4, .int 5, .int 0, .int 2]
theorem case0 (a b x y z : Str) (c : Int) (n : Nat) (hn : c.fmod 7 = (n : Int)) (u v : Pyr.D) (hu : (rows0 a b x y z)[n]? = some u) (hv : plcs0[n]? = some v) : m__law_schema_case [.list [.str a, .str b], .list [.str x, .str y, .str z], .int c] = .ok (.val (.tuple [u, v])) := by
  rw [u__law_schema_case, defM_eq (np := 3) rfl]
  have h : F__law_schema_case [.val (.list [.str a, .str b]), .val (.list [.str x, .str y, .str z]), .val (.int c), .emp, .emp, .emp] = T__law_schema_case_4 [.val (.list [.str a, .str b]), .val (.list [.str x, .str y, .str z]), .val (.int c), .val (.str a), .val (.list (rows0 a b x y z)), .val (.list plcs0)] := by kernel_rfl
  show outR (F__law_schema_case [.val (.list [.str a, .str b]), .val (.list [.str x, .str y, .str z]), .val (.int c), .emp, .emp, .emp]) = _
  rw [h]
  unfold T__law_schema_case_4
  have hm : (Pyr.e2 modD (eN (oneD int2D) (aC (eVar 2) Pyr.a0)) (eC (.int 7))) (purE [.val (.list [.str a, .str b]), .val (.list [.str x, .str y, .str z]), .val (.int c), .val (.str a), .val (.list (rows0 a b x y z)), .val (.list plcs0)]) = .ok (.int (n : Int)) := Eq.trans (e2_ok (x := .int c) (y := .int 7) (Eq.trans (one_ok (x := .int c) rfl) rfl) rfl) (by rw [← hn]; rfl)
  rw [ret_ok (d := .tuple [u, v]) (Eq.trans (eN_ok (xs := [u, v]) (aC_ok (Eq.trans (e2_ok (x := .list (rows0 a b x y z)) rfl hm) (at_list hu)) (aC_ok (Eq.trans (e2_ok (x := .list plcs0) rfl hm) (at_list hv)) rfl))) rfl)]
  rfl
def rows1 (a b x y z : Str) : List Pyr.D := [.list [.str "rule", .str "<-", .str a, .str "?0"], .list [.str "rule", .str "?0", .str "<-", .str ",", .str a], .list [.str "rule", .str "?0", .str "<-", .str a, .str ";"], .list [.str "rule", .str "?0", .str "<-", .str a, .str "?0", .str ";", .str "?0", .str "<-"], .list [.str "rule", .str "?0", .str "<-", .str a, .str "?0", .str ",", .str "?1"], .list [.str "rule", .str "?0", .str "<-", .str a, .str "?0", .str ";", .str "=", .str x], .list [.str "rule", .str "?0", .str "<-", .str a, .str "?0", .str ","], .list [.str "rule", .str "?0", .str "<-", .str a, .str "?0", .str ";", .str "?0", .str "=", .str x, .str ";"], .list [.str "view", .str "01"], .list [.str "view", .str "1", .str "1"]]
def plcs1 : List Pyr.D := [.int 1, .int 3, .int 4, .int 7, .int 6, .int 6, .int 6, .int 9, .int 1, .int 2]
theorem case1 (a b x y z : Str) (c : Int) (n : Nat) (hn : c.fmod 10 = (n : Int)) (u v : Pyr.D) (hu : (rows1 a b x y z)[n]? = some u) (hv : plcs1[n]? = some v) : m__law_view_case [.list [.str a, .str b], .list [.str x, .str y, .str z], .int c] = .ok (.val (.tuple [u, v])) := by
  rw [u__law_view_case, defM_eq (np := 3) rfl]
  have h : F__law_view_case [.val (.list [.str a, .str b]), .val (.list [.str x, .str y, .str z]), .val (.int c), .emp, .emp, .emp] = T__law_view_case_6 [.val (.list [.str a, .str b]), .val (.list [.str x, .str y, .str z]), .val (.int c), .val (.str a), .val (.list (rows1 a b x y z)), .val (.list plcs1)] := by kernel_rfl
  show outR (F__law_view_case [.val (.list [.str a, .str b]), .val (.list [.str x, .str y, .str z]), .val (.int c), .emp, .emp, .emp]) = _
  rw [h]
  unfold T__law_view_case_6
  have hm : (Pyr.e2 modD (eN (oneD int2D) (aC (eVar 2) Pyr.a0)) (eC (.int 10))) (purE [.val (.list [.str a, .str b]), .val (.list [.str x, .str y, .str z]), .val (.int c), .val (.str a), .val (.list (rows1 a b x y z)), .val (.list plcs1)]) = .ok (.int (n : Int)) := Eq.trans (e2_ok (x := .int c) (y := .int 10) (Eq.trans (one_ok (x := .int c) rfl) rfl) rfl) (by rw [← hn]; rfl)
  rw [ret_ok (d := .tuple [u, v]) (Eq.trans (eN_ok (xs := [u, v]) (aC_ok (Eq.trans (e2_ok (x := .list (rows1 a b x y z)) rfl hm) (at_list hu)) (aC_ok (Eq.trans (e2_ok (x := .list plcs1) rfl hm) (at_list hv)) rfl))) rfl)]
  rfl
def rows2 (a b x y z : Str) : List Pyr.D := [.list [.list [.str "may", .str b]], .list [.list [.str "may", .str a, .str "insert", .str "delete"]], .list [.list [.str "may", .str a, .str "delete", .str "delete"]], .list [.list [.str "add", .str "0", .str x]], .list [.list [.str "may", .str a], .list [.str "may", .str b, .str "delete"], .list [.str "may", .str a]], .list [.list [.str "may", .str a], .list [.str "may", .str b, .str "delete"], .list [.str "add", .str "one", .str x]], .list [.list [.str "may", .str a], .list [.str "may", .str a]], .list [.list [.str "may", .str a], .list [.str "may", .str b, .str "delete"], .list [.str "remove", .str "00", .str x]], .list [.list [.str "may", .str a], .list [.str "may", .str b, .str "delete"], .list [.str "remove", .str "0"]]]
def plcs2 : List Pyr.D := [.tuple [.int 0, .int 1], .tuple [.int 0, .int 3], .tuple [.int 0, .int 3], .tuple [.int 0, .int 0], .tuple [.int 2, .int 0], .tuple [.int 2, .int 1], .tuple [.int 1, .int 1], .tuple [.int 2, .int 1], .tuple [.int 2, .int 2]]
theorem case2 (a b x y z : Str) (c : Int) (n : Nat) (hn : c.fmod 9 = (n : Int)) (u v : Pyr.D) (hu : (rows2 a b x y z)[n]? = some u) (hv : plcs2[n]? = some v) : m__law_wish_case [.list [.str a, .str b], .list [.str x, .str y, .str z], .int c] = .ok (.val (.tuple [u, v])) := by
  rw [u__law_wish_case, defM_eq (np := 3) rfl]
  have h : F__law_wish_case [.val (.list [.str a, .str b]), .val (.list [.str x, .str y, .str z]), .val (.int c), .emp, .emp, .emp, .emp] = T__law_wish_case_5 [.val (.list [.str a, .str b]), .val (.list [.str x, .str y, .str z]), .val (.int c), .val (.list (rows2 a b x y z)), .val (.list plcs2), .val (.list [.str "may", .str a]), .val (.list [.str "may", .str b, .str "delete"])] := by kernel_rfl
  show outR (F__law_wish_case [.val (.list [.str a, .str b]), .val (.list [.str x, .str y, .str z]), .val (.int c), .emp, .emp, .emp, .emp]) = _
  rw [h]
  unfold T__law_wish_case_5
  have hm : (Pyr.e2 modD (eN (oneD int2D) (aC (eVar 2) Pyr.a0)) (eC (.int 9))) (purE [.val (.list [.str a, .str b]), .val (.list [.str x, .str y, .str z]), .val (.int c), .val (.list (rows2 a b x y z)), .val (.list plcs2), .val (.list [.str "may", .str a]), .val (.list [.str "may", .str b, .str "delete"])]) = .ok (.int (n : Int)) := Eq.trans (e2_ok (x := .int c) (y := .int 9) (Eq.trans (one_ok (x := .int c) rfl) rfl) rfl) (by rw [← hn]; rfl)
  rw [ret_ok (d := .tuple [u, v]) (Eq.trans (eN_ok (xs := [u, v]) (aC_ok (Eq.trans (e2_ok (x := .list (rows2 a b x y z)) rfl hm) (at_list hu)) (aC_ok (Eq.trans (e2_ok (x := .list plcs2) rfl hm) (at_list hv)) rfl))) rfl)]
  rfl
def rows3 (a b x y z : Str) : List Pyr.D := [.list [.list [.str "insert", .str a, .str x], .list [.str "delete", .str a, .str x]], .list [.list [.str "remove", .str a, .str x]], .list [.list [.str "delete", .str a, .str x], .list [.str "insert", .str a, .str x], .list [.str "delete", .str a, .str x]], .list [.list [.str "insert", .str "delete", .str a, .str x], .list [.str "?"]]]
def plcs3 : List Pyr.D := [.tuple [.int 1, .int 0], .tuple [.int 0, .int 0], .tuple [.int 2, .int 0], .tuple [.int 1, .int 0]]
theorem case3 (a b x y z : Str) (c : Int) (n : Nat) (hn : c.fmod 4 = (n : Int)) (u v : Pyr.D) (hu : (rows3 a b x y z)[n]? = some u) (hv : plcs3[n]? = some v) : m__law_change_case [.list [.str a, .str b], .list [.str x, .str y, .str z], .int c] = .ok (.val (.tuple [u, v])) := by
  rw [u__law_change_case, defM_eq (np := 3) rfl]
  have h : F__law_change_case [.val (.list [.str a, .str b]), .val (.list [.str x, .str y, .str z]), .val (.int c), .emp, .emp, .emp, .emp] = T__law_change_case_3 [.val (.list [.str a, .str b]), .val (.list [.str x, .str y, .str z]), .val (.int c), .val (.list (rows3 a b x y z)), .val (.list plcs3), .val (.list [.str "insert", .str a, .str x]), .val (.list [.str "delete", .str a, .str x])] := by kernel_rfl
  show outR (F__law_change_case [.val (.list [.str a, .str b]), .val (.list [.str x, .str y, .str z]), .val (.int c), .emp, .emp, .emp, .emp]) = _
  rw [h]
  unfold T__law_change_case_3
  have hm : (Pyr.e2 modD (eN (oneD int2D) (aC (eVar 2) Pyr.a0)) (eC (.int 4))) (purE [.val (.list [.str a, .str b]), .val (.list [.str x, .str y, .str z]), .val (.int c), .val (.list (rows3 a b x y z)), .val (.list plcs3), .val (.list [.str "insert", .str a, .str x]), .val (.list [.str "delete", .str a, .str x])]) = .ok (.int (n : Int)) := Eq.trans (e2_ok (x := .int c) (y := .int 4) (Eq.trans (one_ok (x := .int c) rfl) rfl) rfl) (by rw [← hn]; rfl)
  rw [ret_ok (d := .tuple [u, v]) (Eq.trans (eN_ok (xs := [u, v]) (aC_ok (Eq.trans (e2_ok (x := .list (rows3 a b x y z)) rfl hm) (at_list hu)) (aC_ok (Eq.trans (e2_ok (x := .list plcs3) rfl hm) (at_list hv)) rfl))) rfl)]
  rfl
def ahW (k : Int) (b y : Str) : List Str := if k = 0 then ["table", b, "9"] else if k = 1 then ["view", "7"] else ["delete", "nosuchtable", y]
abbrev nD (a b : Str) : Pyr.D := .list [.str a, .str b]
abbrev wD3 (x y z : Str) : Pyr.D := .list [.str x, .str y, .str z]
theorem ahead_run {k : Int} (hk : k = 0 ∨ k = 1 ∨ k = 3) (a b x y z : Str) : m__law_ahead [.int k, nD a b, wD3 x y z] = .ok (.own ((ahW k b y).map .str)) := by
  rw [u__law_ahead, defM_eq (np := 3) rfl]
  rcases hk with rfl | rfl | rfl <;> rfl
abbrev told (k : Int) (a b : Str) (wss : List (List Str)) (i p : Nat) : Prop := m__law_told [.int k, nD a b, .list (wss.map wlD), .tuple [.int (i : Int), .int (p : Int)]] = .ok (.val (.bool true))
theorem t6_run (s0 dr s7 s8 : Sl) (k : Int) (a b x y z : Str) (wss : List (List Str)) (i p : Nat) (h : told k a b wss i p) (hf : m__law_facts_told [nD a b, wD3 x y z] = .ok (.val (.bool true))) :
    outR (T_law_6 [s0, dr, .val (nD a b), .val (wD3 x y z), .val (.int k), .val (.list (wss.map wlD)), .val (.tuple [.int (i : Int), .int (p : Int)]), s7, s8]) = .ok (.val (.bool true)) := by
  unfold T_law_6
  rw [ret_ok (d := .bool true) (eand_ok (a := true) (b := true) (Eq.trans (call_ok (r := .val (.bool true)) (xs := [.int k, nD a b, .list (wss.map wlD), .tuple [.int (i : Int), .int (p : Int)]]) rfl h) rfl) (Eq.trans (call_ok (r := .val (.bool true)) (xs := [nD a b, wD3 x y z]) rfl hf) rfl))]
  rfl
theorem t5_run (vs : List Int) (hv : vs.length = 12) (s0 s7 s8 : Sl) {k : Int} (hk : k = 0 ∨ k = 1 ∨ k = 2 ∨ k = 3) (a b x y z f : Str) (r : List Str) (rest : List (List Str)) (i p : Nat) (hl : rest.length ≤ 20) (h : told k a b ((f :: r) :: rest) i p) (h2 : k ≠ 2 → f ≠ "rule" → told k a b (ahW k b y :: (f :: r) :: rest) (i + 1) p)
    (hf : m__law_facts_told [nD a b, wD3 x y z] = .ok (.val (.bool true))) :
    outR (T_law_5 [s0, .val (.list (vs.map .int)), .val (nD a b), .val (wD3 x y z), .val (.int k), .val (.list (((f :: r) :: rest).map wlD)), .val (.tuple [.int (i : Int), .int (p : Int)]), s7, s8]) = .ok (.val (.bool true)) := by
  have a7 : atD (.list (vs.map .int)) (.int 7) = .ok (.int vs[7]) := int_at (k := 7) (by omega)
  have hd : (tE boolD (Pyr.e2 eqD (Pyr.e2 modD (eN (oneD int2D) (aC (Pyr.e2 atD (eVar 1) (eC (.int 7))) Pyr.a0)) (eC (.int 2))) (eC (.int 1)))) (frzE [s0, .val (.list (vs.map .int)), .val (nD a b), .val (wD3 x y z), .val (.int k), .val (.list (((f :: r) :: rest).map wlD)), .val (.tuple [.int (i : Int), .int (p : Int)]), .emp, .emp]) = .ok (decide (vs[7].fmod 2 = 1)) := by
    refine Eq.trans (tE_ok (x := .bool (decide (vs[7].fmod 2 = 1))) (Eq.trans (e2_ok (x := .int (vs[7].fmod 2)) (y := .int 1) (Eq.trans (e2_ok (x := .int vs[7]) (y := .int 2) (Eq.trans (one_ok (x := .int vs[7]) (Eq.trans (e2_ok (x := .list (vs.map .int)) (y := .int 7) rfl rfl) a7)) rfl) rfl) rfl) rfl) (eqD_int _ _))) rfl
  have hr : (tE boolD (Pyr.e2 neD (Pyr.e2 atD (Pyr.e2 atD (eVar 5) (eC (.int 0))) (eC (.int 0))) (eC (.str "rule")))) (frzE [s0, .val (.list (vs.map .int)), .val (nD a b), .val (wD3 x y z), .val (.int k), .val (.list (((f :: r) :: rest).map wlD)), .val (.tuple [.int (i : Int), .int (p : Int)]), .emp, .emp]) = .ok (!decide (f = "rule")) := by
    refine Eq.trans (tE_ok (x := .bool (!decide (f = "rule"))) (Eq.trans (e2_ok (x := .str f) (y := .str "rule") (Eq.trans (e2_ok (x := wlD (f :: r)) (y := .int 0) (Eq.trans (e2_ok (x := .list (((f :: r) :: rest).map wlD)) (y := .int 0) rfl rfl) run_atL0) rfl) run_atL0) rfl) (neD_str _ _))) rfl
  unfold T_law_5
  show outR (sSeq (sIf _ _ _) T_law_6 [s0, .val (.list (vs.map .int)), .val (nD a b), .val (wD3 x y z), .val (.int k), .val (.list (((f :: r) :: rest).map wlD)), .val (.tuple [.int (i : Int), .int (p : Int)]), .emp, .emp]) = _
  have h0 : (tE boolD (Pyr.e2 neD (eVar 4) (eC (.int 2)))) (frzE [s0, .val (.list (vs.map .int)), .val (nD a b), .val (wD3 x y z), .val (.int k), .val (.list (((f :: r) :: rest).map wlD)), .val (.tuple [.int (i : Int), .int (p : Int)]), .emp, .emp]) = .ok (!decide (k = 2)) := by
    rcases hk with rfl | rfl | rfl | rfl <;> rfl
  have hc : (tAndR (tE boolD (Pyr.e2 neD (eVar 4) (eC (.int 2)))) (tAndR (tE boolD (Pyr.e2 neD (Pyr.e2 atD (Pyr.e2 atD (eVar 5) (eC (.int 0))) (eC (.int 0))) (eC (.str "rule")))) (tE boolD (Pyr.e2 eqD (Pyr.e2 modD (eN (oneD int2D) (aC (Pyr.e2 atD (eVar 1) (eC (.int 7))) Pyr.a0)) (eC (.int 2))) (eC (.int 1)))))) (frzE [s0, .val (.list (vs.map .int)), .val (nD a b), .val (wD3 x y z), .val (.int k), .val (.list (((f :: r) :: rest).map wlD)), .val (.tuple [.int (i : Int), .int (p : Int)]), .emp, .emp]) = .ok (!decide (k = 2) && (!decide (f = "rule") && decide (vs[7].fmod 2 = 1))) :=
    and_ok h0 fun _ => and_ok hr fun _ => hd
  by_cases q : (!decide (k = 2) && (!decide (f = "rule") && decide (vs[7].fmod 2 = 1))) = true
  · rw [q] at hc
    rw [Bool.and_eq_true, Bool.and_eq_true] at q
    have k2 : k ≠ 2 := by simpa using q.1
    have f2 : f ≠ "rule" := by simpa using q.2.1
    have hk3 : k = 0 ∨ k = 1 ∨ k = 3 := by omega
    have ha := ahead_run hk3 a b x y z
    have hs : sIf (tAndR (tE boolD (Pyr.e2 neD (eVar 4) (eC (.int 2)))) (tAndR (tE boolD (Pyr.e2 neD (Pyr.e2 atD (Pyr.e2 atD (eVar 5) (eC (.int 0))) (eC (.int 0))) (eC (.str "rule")))) (tE boolD (Pyr.e2 eqD (Pyr.e2 modD (eN (oneD int2D) (aC (Pyr.e2 atD (eVar 1) (eC (.int 7))) Pyr.a0)) (eC (.int 2))) (eC (.int 1))))))
        (sSeq (sSet 5 (Pyr.e2 addD (eL (lN (aC (eCall m__law_ahead (aC (eVar 4) (aC (eVar 2) (aC (eVar 3) Pyr.a0)))) Pyr.a0))) (eVar 5))) (sSet 6 (eN tupD (aC (Pyr.e2 addD (Pyr.e2 atD (eVar 6) (eC (.int 0))) (eC (.int 1))) (aC (Pyr.e2 atD (eVar 6) (eC (.int 1))) Pyr.a0))))) sNext
        [s0, .val (.list (vs.map .int)), .val (nD a b), .val (wD3 x y z), .val (.int k), .val (.list (((f :: r) :: rest).map wlD)), .val (.tuple [.int (i : Int), .int (p : Int)]), .emp, .emp] = .ok (.next [s0, .val (.list (vs.map .int)), .val (nD a b), .val (wD3 x y z), .val (.int k), .val (.list ((ahW k b y :: (f :: r) :: rest).map wlD)), .val (.tuple [.int ((i + 1 : Nat) : Int), .int (p : Int)]), .emp, .emp]) := by
      rw [if_ok hc, if_pos rfl]
      have e5 : (Pyr.e2 addD (eL (lN (aC (eCall m__law_ahead (aC (eVar 4) (aC (eVar 2) (aC (eVar 3) Pyr.a0)))) Pyr.a0))) (eVar 5)) (purE [s0, .val (.list (vs.map .int)), .val (nD a b), .val (wD3 x y z), .val (.int k), .val (.list (((f :: r) :: rest).map wlD)), .val (.tuple [.int (i : Int), .int (p : Int)]), .emp, .emp]) = .ok (.list ((ahW k b y :: (f :: r) :: rest).map wlD)) := by
        refine Eq.trans (e2_ok (x := .list [wlD (ahW k b y)]) (y := .list (((f :: r) :: rest).map wlD)) (mapL_ok (ds := [wlD (ahW k b y)]) ?_) rfl) (okL_ok (by simp only [List.length_map, List.length_cons, List.length_nil]; show _ ≤ 100000; omega))
        unfold lN
        rw [aC_ok (x := wlD (ahW k b y)) (xs := []) (Eq.trans (call_ok (r := .own ((ahW k b y).map .str)) (xs := [.int k, nD a b, wD3 x y z]) rfl ha) rfl) rfl]
        rfl
      rw [seq_ok (set_ok e5)]
      refine set_ok ?_
      rfl
    exact seqO hs (t6_run s0 _ .emp .emp k a b x y z _ (i + 1) p (h2 k2 f2) hf)
  · have q' : (!decide (k = 2) && (!decide (f = "rule") && decide (vs[7].fmod 2 = 1))) = false := by simpa using q
    rw [q'] at hc
    exact seqO (Eq.trans (if_ok hc) rfl) (t6_run s0 _ .emp .emp k a b x y z _ i p h hf)
theorem fact_text (a b x y : Str) : ((((((b ++ (" " : Str)) ++ x) ++ ("\n" : Str)) ++ a) ++ (" " : Str)) ++ y) ++ (" ?0\n" : Str) = textL ([[b, x], [a, y, "?0"]].map lineW) := by
  refine str_ext ?_
  show _ = (textL [lineW [b, x], lineW [a, y, "?0"]]).cps.toList
  rw [text_l, text_l, text_nil, lineW_l, lineW_l]
  simp only [tl_app, sp_l, nl_l]
  have e : (" ?0\n" : Str).cps.toList = [32, 63, 48, 10] := by decide +kernel
  have e2 : ("?0" : Str).cps.toList = [63, 48] := by decide +kernel
  rw [e]
  simp only [List.map_cons, List.map_nil, TL.joinL, e2, List.append_assoc, List.append_nil]
  rfl
theorem facts_told {a b x y z : Str} (ha : Wd a) (hb : Wd b) (hx : Wd x) (hy : Wd y) (hz : Wd z) (hab : a ≠ b) : m__law_facts_told [nD a b, wD3 x y z] = .ok (.val (.bool true)) := by
  have hR := BadW.read (cF ha hb hx hy hz hab) (allK_mem (kF ha hb hx hy hz hab)) (by simp) tF_lo
  rw [← fact_text] at hR
  have e0 : colOf ([[b, x], [a, y, "?0"]].getD 1 []) 2 = a.length + y.length + 3 := by
    show colOf [a, y, "?0"] 2 = _
    unfold colOf
    rw [if_neg (by simp)]
    show 1 + (a.length + 1 + (y.length + 1 + 0)) = _
    omega
  rw [e0] at hR
  generalize hX : ((((((b ++ (" " : Str)) ++ x) ++ ("\n" : Str)) ++ a) ++ (" " : Str)) ++ y) ++ (" ?0\n" : Str) = X at *
  have la := ha.2.1
  have lb := hb.2.1
  have lx := hx.2.1
  have ly := hy.2.1
  have e1 : (" " : Str).length = 1 := by decide +kernel
  have e3 : (" ?0\n" : Str).length = 4 := by decide +kernel
  have hv : (Pyr.e2 addD (Pyr.e2 addD (Pyr.e2 addD (Pyr.e2 addD (Pyr.e2 addD (Pyr.e2 addD (Pyr.e2 addD (Pyr.e2 atD (eVar 0) (eC (.int 1))) (eC (.str " "))) (Pyr.e2 atD (eVar 1) (eC (.int 0)))) (eC (.str "\n"))) (Pyr.e2 atD (eVar 0) (eC (.int 0)))) (eC (.str " "))) (Pyr.e2 atD (eVar 1) (eC (.int 1)))) (eC (.str " ?0\n"))) (purE [.val (nD a b), .val (wD3 x y z), .emp]) = .ok (.str X) := by
    rw [← hX]
    have st : ∀ (u v : Str) (f g : En → Res Pyr.D) (ρ : En), f ρ = .ok (.str u) → g ρ = .ok (.str v) → u.length + v.length ≤ 1000 → Pyr.e2 addD f g ρ = .ok (.str (u ++ v)) := fun u v f g ρ h1 h2 h3 => Eq.trans (e2_ok h1 h2) (addD_str (by show _ ≤ 100000; omega))
    refine st _ _ _ _ _ (st _ _ _ _ _ (st _ _ _ _ _ (st _ _ _ _ _ (st _ _ _ _ _ (st _ _ _ _ _ (st b " " _ _ _ rfl rfl (by omega)) (rfl : _ = Res.ok (PyData.str x)) ?_) rfl ?_) (rfl : _ = Res.ok (PyData.str a)) ?_) rfl ?_) (rfl : _ = Res.ok (PyData.str y)) ?_) rfl ?_ <;> simp only [app_len, e1, nl1, e3] <;> omega
  have hs : (eL (lN (aC (eN tupD (aC (Pyr.e2 atD (eVar 0) (eC (.int 0))) (aC (eC (.int 1)) (aC (eC .none) Pyr.a0)))) Pyr.a0))) (purE [.val (nD a b), .val (wD3 x y z), .emp]) = .ok (.list [.tuple [.str a, .int 1, .none]]) := rfl
  rw [u__law_facts_told, defM_eq (np := 2) rfl]
  show outR (F__law_facts_told [.val (nD a b), .val (wD3 x y z), .emp]) = _
  unfold F__law_facts_told
  have e1' : ctT ctTab_BadText "BadText" = some true := by kernel_rfl
  refine (congrArg outR (seq_ret (r := .val (.bool true)) ?_)).trans rfl
  have hb' : sDropP (eCall m_read_facts (aC (eL (lN (aC (eN tupD (aC (Pyr.e2 atD (eVar 0) (eC (.int 0))) (aC (eC (.int 1)) (aC (eC .none) Pyr.a0)))) Pyr.a0))) (aC (Pyr.e2 addD (Pyr.e2 addD (Pyr.e2 addD (Pyr.e2 addD (Pyr.e2 addD (Pyr.e2 addD (Pyr.e2 addD (Pyr.e2 atD (eVar 0) (eC (.int 1))) (eC (.str " "))) (Pyr.e2 atD (eVar 1) (eC (.int 0)))) (eC (.str "\n"))) (Pyr.e2 atD (eVar 0) (eC (.int 0)))) (eC (.str " "))) (Pyr.e2 atD (eVar 1) (eC (.int 1)))) (eC (.str " ?0\n"))) Pyr.a0))) [.val (nD a b), .val (wD3 x y z), .emp] = .exc "BadText" (bad 2 ((a.length + y.length + 3 : Nat) : Int)) := by
    unfold sDropP
    rw [call_exc (xs := [.list [.tuple [.str a, .int 1, .none]], .str X]) (aC_ok hs (aC_ok hv rfl)) (rd_facts hR)]
    rfl
  unfold sTryF
  rw [hb']
  dsimp only
  rw [e1']
  dsimp only
  have hr : ∀ F1 : Frm, F1 = List.set [.val (nD a b), .val (wD3 x y z), .emp] 2 (.own (.exc (xiD "BadText" (bad 2 ((a.length + y.length + 3 : Nat) : Int))))) →
      sRet (eAnd (Pyr.e2 eqD (eXf xfTab 2 "line") (eC (.int 2))) (Pyr.e2 eqD (eXf xfTab 2 "column") (Pyr.e2 addD (Pyr.e2 addD (eN (oneD lenD) (aC (Pyr.e2 atD (eVar 0) (eC (.int 0))) Pyr.a0)) (eN (oneD lenD) (aC (Pyr.e2 atD (eVar 1) (eC (.int 1))) Pyr.a0))) (eC (.int 3))))) F1 = .ok (.ret (.val (.bool true))) := fun F1 hF => by
    have x1 : eXf xfTab 2 "line" (purE F1) = .ok (.int 2) := by subst hF; kernel_rfl
    have x2 : eXf xfTab 2 "column" (purE F1) = .ok (.int ((a.length + y.length + 3 : Nat) : Int)) := by subst hF; kernel_rfl
    have v0 : eVar 0 (purE F1) = .ok (nD a b) := by subst hF; rfl
    have v1 : eVar 1 (purE F1) = .ok (wD3 x y z) := by subst hF; rfl
    refine ret_ok (eand_ok (a := true) (b := true) (Eq.trans (e2_ok x1 (y := .int 2) rfl) rfl) ?_)
    have l0 : (eN (oneD lenD) (aC (Pyr.e2 atD (eVar 0) (eC (.int 0))) Pyr.a0)) (purE F1) = .ok (.int (a.length : Int)) := Eq.trans (one_ok (x := .str a) (Eq.trans (e2_ok v0 (y := .int 0) rfl) run_atL0)) (okL_ok (by show _ ≤ 100000; omega))
    have l1 : (eN (oneD lenD) (aC (Pyr.e2 atD (eVar 1) (eC (.int 1))) Pyr.a0)) (purE F1) = .ok (.int (y.length : Int)) := Eq.trans (one_ok (x := .str y) (Eq.trans (e2_ok v1 (y := .int 1) rfl) run_atL1)) (okL_ok (by show _ ≤ 100000; omega))
    refine Eq.trans (e2_ok x2 (y := .int ((a.length : Int) + (y.length : Int) + 3)) (Eq.trans (e2_ok (x := .int ((a.length : Int) + (y.length : Int))) (y := .int 3) (Eq.trans (e2_ok l0 l1) rfl) rfl) rfl)) ?_
    rw [eqD_int, decide_eq_true (by omega)]
  rw [hr _ rfl]
  rfl
section
variable {a b x y z : Str} (ha : Wd a) (hb : Wd b) (hx : Wd x) (hy : Wd y) (hz : Wd z) (hab : a ≠ b)
include ha hb hx hy hz hab
theorem t0_0 : told 0 a b [[("table" : Str), a, ("key" : Str)]] 0 2 := told_run _ _ _ 0 2 (allK_mem (k0_0 ha hb hx hy hz hab)) (by simp) (by simp) (by simp) (lr0 ((c0_0 ha hb hx hy hz hab).read (allK_mem (k0_0 ha hb hx hy hz hab)) (by simp) tS_lo))
theorem u0_0 : told 0 a b (ahW 0 b y :: [[("table" : Str), a, ("key" : Str)]]) 1 2 := told_run _ _ _ 1 2 (allK_mem (e0_0 ha hb hx hy hz hab)) (by simp) (by simp) (by show 2 ≤ ([("table" : Str), a, ("key" : Str)]).length; simp) (lr0 ((d0_0 ha hb hx hy hz hab).read (allK_mem (e0_0 ha hb hx hy hz hab)) (by simp) tS_lo))
theorem t0_1 : told 0 a b [[("table" : Str), a, ("2" : Str), ("1" : Str)]] 0 3 := told_run _ _ _ 0 3 (allK_mem (k0_1 ha hb hx hy hz hab)) (by simp) (by simp) (by simp) (lr0 ((c0_1 ha hb hx hy hz hab).read (allK_mem (k0_1 ha hb hx hy hz hab)) (by simp) tS_lo))
theorem u0_1 : told 0 a b (ahW 0 b y :: [[("table" : Str), a, ("2" : Str), ("1" : Str)]]) 1 3 := told_run _ _ _ 1 3 (allK_mem (e0_1 ha hb hx hy hz hab)) (by simp) (by simp) (by show 3 ≤ ([("table" : Str), a, ("2" : Str), ("1" : Str)]).length; simp) (lr0 ((d0_1 ha hb hx hy hz hab).read (allK_mem (e0_1 ha hb hx hy hz hab)) (by simp) tS_lo))
theorem t0_2 : told 0 a b [[("table" : Str), a, ("02" : Str)]] 0 2 := told_run _ _ _ 0 2 (allK_mem (k0_2 ha hb hx hy hz hab)) (by simp) (by simp) (by simp) (lr0 ((c0_2 ha hb hx hy hz hab).read (allK_mem (k0_2 ha hb hx hy hz hab)) (by simp) tS_lo))
theorem u0_2 : told 0 a b (ahW 0 b y :: [[("table" : Str), a, ("02" : Str)]]) 1 2 := told_run _ _ _ 1 2 (allK_mem (e0_2 ha hb hx hy hz hab)) (by simp) (by simp) (by show 2 ≤ ([("table" : Str), a, ("02" : Str)]).length; simp) (lr0 ((d0_2 ha hb hx hy hz hab).read (allK_mem (e0_2 ha hb hx hy hz hab)) (by simp) tS_lo))
theorem t0_3 : told 0 a b [[("table" : Str), a, ("2" : Str), ("key" : Str), ("x" : Str)]] 0 4 := told_run _ _ _ 0 4 (allK_mem (k0_3 ha hb hx hy hz hab)) (by simp) (by simp) (by simp) (lr0 ((c0_3 ha hb hx hy hz hab).read (allK_mem (k0_3 ha hb hx hy hz hab)) (by simp) tS_lo))
theorem u0_3 : told 0 a b (ahW 0 b y :: [[("table" : Str), a, ("2" : Str), ("key" : Str), ("x" : Str)]]) 1 4 := told_run _ _ _ 1 4 (allK_mem (e0_3 ha hb hx hy hz hab)) (by simp) (by simp) (by show 4 ≤ ([("table" : Str), a, ("2" : Str), ("key" : Str), ("x" : Str)]).length; simp) (lr0 ((d0_3 ha hb hx hy hz hab).read (allK_mem (e0_3 ha hb hx hy hz hab)) (by simp) tS_lo))
theorem t0_4 : told 0 a b [[("table" : Str), a, ("2" : Str), ("key" : Str), ("1" : Str), ("1" : Str)]] 0 5 := told_run _ _ _ 0 5 (allK_mem (k0_4 ha hb hx hy hz hab)) (by simp) (by simp) (by simp) (lr0 ((c0_4 ha hb hx hy hz hab).read (allK_mem (k0_4 ha hb hx hy hz hab)) (by simp) tS_lo))
theorem u0_4 : told 0 a b (ahW 0 b y :: [[("table" : Str), a, ("2" : Str), ("key" : Str), ("1" : Str), ("1" : Str)]]) 1 5 := told_run _ _ _ 1 5 (allK_mem (e0_4 ha hb hx hy hz hab)) (by simp) (by simp) (by show 5 ≤ ([("table" : Str), a, ("2" : Str), ("key" : Str), ("1" : Str), ("1" : Str)]).length; simp) (lr0 ((d0_4 ha hb hx hy hz hab).read (allK_mem (e0_4 ha hb hx hy hz hab)) (by simp) tS_lo))
theorem t0_5 : told 0 a b [[("view" : Str), a, ("2" : Str)]] 0 0 := told_run _ _ _ 0 0 (allK_mem (k0_5 ha hb hx hy hz hab)) (by simp) (by simp) (by simp) (lr0 ((c0_5 ha hb hx hy hz hab).read (allK_mem (k0_5 ha hb hx hy hz hab)) (by simp) tS_lo))
theorem u0_5 : told 0 a b (ahW 0 b y :: [[("view" : Str), a, ("2" : Str)]]) 1 0 := told_run _ _ _ 1 0 (allK_mem (e0_5 ha hb hx hy hz hab)) (by simp) (by simp) (by show 0 ≤ ([("view" : Str), a, ("2" : Str)]).length; simp) (lr0 ((d0_5 ha hb hx hy hz hab).read (allK_mem (e0_5 ha hb hx hy hz hab)) (by simp) tS_lo))
theorem t0_6 : told 0 a b [[("table" : Str), a, ("1234567" : Str)]] 0 2 := told_run _ _ _ 0 2 (allK_mem (k0_6 ha hb hx hy hz hab)) (by simp) (by simp) (by simp) (lr0 ((c0_6 ha hb hx hy hz hab).read (allK_mem (k0_6 ha hb hx hy hz hab)) (by simp) tS_lo))
theorem u0_6 : told 0 a b (ahW 0 b y :: [[("table" : Str), a, ("1234567" : Str)]]) 1 2 := told_run _ _ _ 1 2 (allK_mem (e0_6 ha hb hx hy hz hab)) (by simp) (by simp) (by show 2 ≤ ([("table" : Str), a, ("1234567" : Str)]).length; simp) (lr0 ((d0_6 ha hb hx hy hz hab).read (allK_mem (e0_6 ha hb hx hy hz hab)) (by simp) tS_lo))
theorem t1_0 : told 1 a b [[("view" : Str), ("1" : Str)], [("rule" : Str), ("<-" : Str), a, ("?0" : Str)]] 1 1 := told_run _ _ _ 1 1 (allK_mem (k1_0 ha hb hx hy hz hab)) (by simp) (by simp) (by simp) (lr1 ((c1_0 ha hb hx hy hz hab).read (allK_mem (k1_0 ha hb hx hy hz hab)) (by simp) tV_lo))
theorem u1_0 : told 1 a b (ahW 1 b y :: [[("view" : Str), ("1" : Str)], [("rule" : Str), ("<-" : Str), a, ("?0" : Str)]]) 2 1 := told_run _ _ _ 2 1 (allK_mem (e1_0 ha hb hx hy hz hab)) (by simp) (by simp) (by show 1 ≤ ([("rule" : Str), ("<-" : Str), a, ("?0" : Str)]).length; simp) (lr1 ((d1_0 ha hb hx hy hz hab).read (allK_mem (e1_0 ha hb hx hy hz hab)) (by simp) tV_lo))
theorem t1_1 : told 1 a b [[("view" : Str), ("1" : Str)], [("rule" : Str), ("?0" : Str), ("<-" : Str), ("," : Str), a]] 1 3 := told_run _ _ _ 1 3 (allK_mem (k1_1 ha hb hx hy hz hab)) (by simp) (by simp) (by simp) (lr1 ((c1_1 ha hb hx hy hz hab).read (allK_mem (k1_1 ha hb hx hy hz hab)) (by simp) tV_lo))
theorem u1_1 : told 1 a b (ahW 1 b y :: [[("view" : Str), ("1" : Str)], [("rule" : Str), ("?0" : Str), ("<-" : Str), ("," : Str), a]]) 2 3 := told_run _ _ _ 2 3 (allK_mem (e1_1 ha hb hx hy hz hab)) (by simp) (by simp) (by show 3 ≤ ([("rule" : Str), ("?0" : Str), ("<-" : Str), ("," : Str), a]).length; simp) (lr1 ((d1_1 ha hb hx hy hz hab).read (allK_mem (e1_1 ha hb hx hy hz hab)) (by simp) tV_lo))
theorem t1_2 : told 1 a b [[("view" : Str), ("1" : Str)], [("rule" : Str), ("?0" : Str), ("<-" : Str), a, (";" : Str)]] 1 4 := told_run _ _ _ 1 4 (allK_mem (k1_2 ha hb hx hy hz hab)) (by simp) (by simp) (by simp) (lr1 ((c1_2 ha hb hx hy hz hab).read (allK_mem (k1_2 ha hb hx hy hz hab)) (by simp) tV_lo))
theorem u1_2 : told 1 a b (ahW 1 b y :: [[("view" : Str), ("1" : Str)], [("rule" : Str), ("?0" : Str), ("<-" : Str), a, (";" : Str)]]) 2 4 := told_run _ _ _ 2 4 (allK_mem (e1_2 ha hb hx hy hz hab)) (by simp) (by simp) (by show 4 ≤ ([("rule" : Str), ("?0" : Str), ("<-" : Str), a, (";" : Str)]).length; simp) (lr1 ((d1_2 ha hb hx hy hz hab).read (allK_mem (e1_2 ha hb hx hy hz hab)) (by simp) tV_lo))
theorem t1_3 : told 1 a b [[("view" : Str), ("1" : Str)], [("rule" : Str), ("?0" : Str), ("<-" : Str), a, ("?0" : Str), (";" : Str), ("?0" : Str), ("<-" : Str)]] 1 7 := told_run _ _ _ 1 7 (allK_mem (k1_3 ha hb hx hy hz hab)) (by simp) (by simp) (by simp) (lr1 ((c1_3 ha hb hx hy hz hab).read (allK_mem (k1_3 ha hb hx hy hz hab)) (by simp) tV_lo))
theorem u1_3 : told 1 a b (ahW 1 b y :: [[("view" : Str), ("1" : Str)], [("rule" : Str), ("?0" : Str), ("<-" : Str), a, ("?0" : Str), (";" : Str), ("?0" : Str), ("<-" : Str)]]) 2 7 := told_run _ _ _ 2 7 (allK_mem (e1_3 ha hb hx hy hz hab)) (by simp) (by simp) (by show 7 ≤ ([("rule" : Str), ("?0" : Str), ("<-" : Str), a, ("?0" : Str), (";" : Str), ("?0" : Str), ("<-" : Str)]).length; simp) (lr1 ((d1_3 ha hb hx hy hz hab).read (allK_mem (e1_3 ha hb hx hy hz hab)) (by simp) tV_lo))
theorem t1_4 : told 1 a b [[("view" : Str), ("1" : Str)], [("rule" : Str), ("?0" : Str), ("<-" : Str), a, ("?0" : Str), ("," : Str), ("?1" : Str)]] 1 6 := told_run _ _ _ 1 6 (allK_mem (k1_4 ha hb hx hy hz hab)) (by simp) (by simp) (by simp) (lr1 ((c1_4 ha hb hx hy hz hab).read (allK_mem (k1_4 ha hb hx hy hz hab)) (by simp) tV_lo))
theorem u1_4 : told 1 a b (ahW 1 b y :: [[("view" : Str), ("1" : Str)], [("rule" : Str), ("?0" : Str), ("<-" : Str), a, ("?0" : Str), ("," : Str), ("?1" : Str)]]) 2 6 := told_run _ _ _ 2 6 (allK_mem (e1_4 ha hb hx hy hz hab)) (by simp) (by simp) (by show 6 ≤ ([("rule" : Str), ("?0" : Str), ("<-" : Str), a, ("?0" : Str), ("," : Str), ("?1" : Str)]).length; simp) (lr1 ((d1_4 ha hb hx hy hz hab).read (allK_mem (e1_4 ha hb hx hy hz hab)) (by simp) tV_lo))
theorem t1_5 : told 1 a b [[("view" : Str), ("1" : Str)], [("rule" : Str), ("?0" : Str), ("<-" : Str), a, ("?0" : Str), (";" : Str), ("=" : Str), x]] 1 6 := told_run _ _ _ 1 6 (allK_mem (k1_5 ha hb hx hy hz hab)) (by simp) (by simp) (by simp) (lr1 ((c1_5 ha hb hx hy hz hab).read (allK_mem (k1_5 ha hb hx hy hz hab)) (by simp) tV_lo))
theorem u1_5 : told 1 a b (ahW 1 b y :: [[("view" : Str), ("1" : Str)], [("rule" : Str), ("?0" : Str), ("<-" : Str), a, ("?0" : Str), (";" : Str), ("=" : Str), x]]) 2 6 := told_run _ _ _ 2 6 (allK_mem (e1_5 ha hb hx hy hz hab)) (by simp) (by simp) (by show 6 ≤ ([("rule" : Str), ("?0" : Str), ("<-" : Str), a, ("?0" : Str), (";" : Str), ("=" : Str), x]).length; simp) (lr1 ((d1_5 ha hb hx hy hz hab).read (allK_mem (e1_5 ha hb hx hy hz hab)) (by simp) tV_lo))
theorem t1_6 : told 1 a b [[("view" : Str), ("1" : Str)], [("rule" : Str), ("?0" : Str), ("<-" : Str), a, ("?0" : Str), ("," : Str)]] 1 6 := told_run _ _ _ 1 6 (allK_mem (k1_6 ha hb hx hy hz hab)) (by simp) (by simp) (by simp) (lr1 ((c1_6 ha hb hx hy hz hab).read (allK_mem (k1_6 ha hb hx hy hz hab)) (by simp) tV_lo))
theorem u1_6 : told 1 a b (ahW 1 b y :: [[("view" : Str), ("1" : Str)], [("rule" : Str), ("?0" : Str), ("<-" : Str), a, ("?0" : Str), ("," : Str)]]) 2 6 := told_run _ _ _ 2 6 (allK_mem (e1_6 ha hb hx hy hz hab)) (by simp) (by simp) (by show 6 ≤ ([("rule" : Str), ("?0" : Str), ("<-" : Str), a, ("?0" : Str), ("," : Str)]).length; simp) (lr1 ((d1_6 ha hb hx hy hz hab).read (allK_mem (e1_6 ha hb hx hy hz hab)) (by simp) tV_lo))
theorem t1_7 : told 1 a b [[("view" : Str), ("1" : Str)], [("rule" : Str), ("?0" : Str), ("<-" : Str), a, ("?0" : Str), (";" : Str), ("?0" : Str), ("=" : Str), x, (";" : Str)]] 1 9 := told_run _ _ _ 1 9 (allK_mem (k1_7 ha hb hx hy hz hab)) (by simp) (by simp) (by simp) (lr1 ((c1_7 ha hb hx hy hz hab).read (allK_mem (k1_7 ha hb hx hy hz hab)) (by simp) tV_lo))
theorem u1_7 : told 1 a b (ahW 1 b y :: [[("view" : Str), ("1" : Str)], [("rule" : Str), ("?0" : Str), ("<-" : Str), a, ("?0" : Str), (";" : Str), ("?0" : Str), ("=" : Str), x, (";" : Str)]]) 2 9 := told_run _ _ _ 2 9 (allK_mem (e1_7 ha hb hx hy hz hab)) (by simp) (by simp) (by show 9 ≤ ([("rule" : Str), ("?0" : Str), ("<-" : Str), a, ("?0" : Str), (";" : Str), ("?0" : Str), ("=" : Str), x, (";" : Str)]).length; simp) (lr1 ((d1_7 ha hb hx hy hz hab).read (allK_mem (e1_7 ha hb hx hy hz hab)) (by simp) tV_lo))
theorem t1_8 : told 1 a b [[("view" : Str), ("1" : Str)], [("view" : Str), ("01" : Str)]] 1 1 := told_run _ _ _ 1 1 (allK_mem (k1_8 ha hb hx hy hz hab)) (by simp) (by simp) (by simp) (lr1 ((c1_8 ha hb hx hy hz hab).read (allK_mem (k1_8 ha hb hx hy hz hab)) (by simp) tV_lo))
theorem u1_8 : told 1 a b (ahW 1 b y :: [[("view" : Str), ("1" : Str)], [("view" : Str), ("01" : Str)]]) 2 1 := told_run _ _ _ 2 1 (allK_mem (e1_8 ha hb hx hy hz hab)) (by simp) (by simp) (by show 1 ≤ ([("view" : Str), ("01" : Str)]).length; simp) (lr1 ((d1_8 ha hb hx hy hz hab).read (allK_mem (e1_8 ha hb hx hy hz hab)) (by simp) tV_lo))
theorem t1_9 : told 1 a b [[("view" : Str), ("1" : Str)], [("view" : Str), ("1" : Str), ("1" : Str)]] 1 2 := told_run _ _ _ 1 2 (allK_mem (k1_9 ha hb hx hy hz hab)) (by simp) (by simp) (by simp) (lr1 ((c1_9 ha hb hx hy hz hab).read (allK_mem (k1_9 ha hb hx hy hz hab)) (by simp) tV_lo))
theorem u1_9 : told 1 a b (ahW 1 b y :: [[("view" : Str), ("1" : Str)], [("view" : Str), ("1" : Str), ("1" : Str)]]) 2 2 := told_run _ _ _ 2 2 (allK_mem (e1_9 ha hb hx hy hz hab)) (by simp) (by simp) (by show 2 ≤ ([("view" : Str), ("1" : Str), ("1" : Str)]).length; simp) (lr1 ((d1_9 ha hb hx hy hz hab).read (allK_mem (e1_9 ha hb hx hy hz hab)) (by simp) tV_lo))
theorem t1_r : told 1 a b [[("rule" : Str), ("?0" : Str), ("<-" : Str), a, ("?0" : Str)]] 0 0 := told_run _ _ _ 0 0 (allK_mem (k1_r ha hb hx hy hz hab)) (by simp) (by simp) (by simp) (lr1 ((c1_r ha hb hx hy hz hab).read (allK_mem (k1_r ha hb hx hy hz hab)) (by simp) tV_lo))
theorem t2_0 : told 2 a b [[("may" : Str), b]] 0 1 := told_run _ _ _ 0 1 (allK_mem (k2_0 ha hb hx hy hz hab)) (by simp) (by simp) (by simp) (lr2 (tW_run a b) ((c2_0 ha hb hx hy hz hab).read (allK_mem (k2_0 ha hb hx hy hz hab)) (by simp) (tW_lo a b)))
theorem t2_1 : told 2 a b [[("may" : Str), a, ("insert" : Str), ("delete" : Str)]] 0 3 := told_run _ _ _ 0 3 (allK_mem (k2_1 ha hb hx hy hz hab)) (by simp) (by simp) (by simp) (lr2 (tW_run a b) ((c2_1 ha hb hx hy hz hab).read (allK_mem (k2_1 ha hb hx hy hz hab)) (by simp) (tW_lo a b)))
theorem t2_2 : told 2 a b [[("may" : Str), a, ("delete" : Str), ("delete" : Str)]] 0 3 := told_run _ _ _ 0 3 (allK_mem (k2_2 ha hb hx hy hz hab)) (by simp) (by simp) (by simp) (lr2 (tW_run a b) ((c2_2 ha hb hx hy hz hab).read (allK_mem (k2_2 ha hb hx hy hz hab)) (by simp) (tW_lo a b)))
theorem t2_3 : told 2 a b [[("add" : Str), ("0" : Str), x]] 0 0 := told_run _ _ _ 0 0 (allK_mem (k2_3 ha hb hx hy hz hab)) (by simp) (by simp) (by simp) (lr2 (tW_run a b) ((c2_3 ha hb hx hy hz hab).read (allK_mem (k2_3 ha hb hx hy hz hab)) (by simp) (tW_lo a b)))
theorem t2_4 : told 2 a b [[("may" : Str), a], [("may" : Str), b, ("delete" : Str)], [("may" : Str), a]] 2 0 := told_run _ _ _ 2 0 (allK_mem (k2_4 ha hb hx hy hz hab)) (by simp) (by simp) (by simp) (lr2 (tW_run a b) ((c2_4 ha hb hx hy hz hab).read (allK_mem (k2_4 ha hb hx hy hz hab)) (by simp) (tW_lo a b)))
theorem t2_5 : told 2 a b [[("may" : Str), a], [("may" : Str), b, ("delete" : Str)], [("add" : Str), ("one" : Str), x]] 2 1 := told_run _ _ _ 2 1 (allK_mem (k2_5 ha hb hx hy hz hab)) (by simp) (by simp) (by simp) (lr2 (tW_run a b) ((c2_5 ha hb hx hy hz hab).read (allK_mem (k2_5 ha hb hx hy hz hab)) (by simp) (tW_lo a b)))
theorem t2_6 : told 2 a b [[("may" : Str), a], [("may" : Str), a]] 1 1 := told_run _ _ _ 1 1 (allK_mem (k2_6 ha hb hx hy hz hab)) (by simp) (by simp) (by simp) (lr2 (tW_run a b) ((c2_6 ha hb hx hy hz hab).read (allK_mem (k2_6 ha hb hx hy hz hab)) (by simp) (tW_lo a b)))
theorem t2_7 : told 2 a b [[("may" : Str), a], [("may" : Str), b, ("delete" : Str)], [("remove" : Str), ("00" : Str), x]] 2 1 := told_run _ _ _ 2 1 (allK_mem (k2_7 ha hb hx hy hz hab)) (by simp) (by simp) (by simp) (lr2 (tW_run a b) ((c2_7 ha hb hx hy hz hab).read (allK_mem (k2_7 ha hb hx hy hz hab)) (by simp) (tW_lo a b)))
theorem t2_8 : told 2 a b [[("may" : Str), a], [("may" : Str), b, ("delete" : Str)], [("remove" : Str), ("0" : Str)]] 2 2 := told_run _ _ _ 2 2 (allK_mem (k2_8 ha hb hx hy hz hab)) (by simp) (by simp) (by simp) (lr2 (tW_run a b) ((c2_8 ha hb hx hy hz hab).read (allK_mem (k2_8 ha hb hx hy hz hab)) (by simp) (tW_lo a b)))
theorem t3_0 : told 3 a b [[("insert" : Str), a, x], [("delete" : Str), a, x]] 1 0 := told_run _ _ _ 1 0 (allK_mem (k3_0 ha hb hx hy hz hab)) (by simp) (by simp) (by simp) (lr3 ((c3_0 ha hb hx hy hz hab).read (allK_mem (k3_0 ha hb hx hy hz hab)) (by simp) tC_lo))
theorem u3_0 : told 3 a b (ahW 3 b y :: [[("insert" : Str), a, x], [("delete" : Str), a, x]]) 2 0 := told_run _ _ _ 2 0 (allK_mem (e3_0 ha hb hx hy hz hab)) (by simp) (by simp) (by show 0 ≤ ([("delete" : Str), a, x]).length; simp) (lr3 ((d3_0 ha hb hx hy hz hab).read (allK_mem (e3_0 ha hb hx hy hz hab)) (by simp) tC_lo))
theorem t3_1 : told 3 a b [[("remove" : Str), a, x]] 0 0 := told_run _ _ _ 0 0 (allK_mem (k3_1 ha hb hx hy hz hab)) (by simp) (by simp) (by simp) (lr3 ((c3_1 ha hb hx hy hz hab).read (allK_mem (k3_1 ha hb hx hy hz hab)) (by simp) tC_lo))
theorem u3_1 : told 3 a b (ahW 3 b y :: [[("remove" : Str), a, x]]) 1 0 := told_run _ _ _ 1 0 (allK_mem (e3_1 ha hb hx hy hz hab)) (by simp) (by simp) (by show 0 ≤ ([("remove" : Str), a, x]).length; simp) (lr3 ((d3_1 ha hb hx hy hz hab).read (allK_mem (e3_1 ha hb hx hy hz hab)) (by simp) tC_lo))
theorem t3_2 : told 3 a b [[("delete" : Str), a, x], [("insert" : Str), a, x], [("delete" : Str), a, x]] 2 0 := told_run _ _ _ 2 0 (allK_mem (k3_2 ha hb hx hy hz hab)) (by simp) (by simp) (by simp) (lr3 ((c3_2 ha hb hx hy hz hab).read (allK_mem (k3_2 ha hb hx hy hz hab)) (by simp) tC_lo))
theorem u3_2 : told 3 a b (ahW 3 b y :: [[("delete" : Str), a, x], [("insert" : Str), a, x], [("delete" : Str), a, x]]) 3 0 := told_run _ _ _ 3 0 (allK_mem (e3_2 ha hb hx hy hz hab)) (by simp) (by simp) (by show 0 ≤ ([("delete" : Str), a, x]).length; simp) (lr3 ((d3_2 ha hb hx hy hz hab).read (allK_mem (e3_2 ha hb hx hy hz hab)) (by simp) tC_lo))
theorem t3_3 : told 3 a b [[("insert" : Str), ("delete" : Str), a, x], [("?" : Str)]] 1 0 := told_run _ _ _ 1 0 (allK_mem (k3_3 ha hb hx hy hz hab)) (by simp) (by simp) (by simp) (lr3 ((c3_3 ha hb hx hy hz hab).read (allK_mem (k3_3 ha hb hx hy hz hab)) (by simp) tC_lo))
theorem u3_3 : told 3 a b (ahW 3 b y :: [[("insert" : Str), ("delete" : Str), a, x], [("?" : Str)]]) 2 0 := told_run _ _ _ 2 0 (allK_mem (e3_3 ha hb hx hy hz hab)) (by simp) (by simp) (by show 0 ≤ ([("?" : Str)]).length; simp) (lr3 ((d3_3 ha hb hx hy hz hab).read (allK_mem (e3_3 ha hb hx hy hz hab)) (by simp) tC_lo))
end
theorem par_ok {i j : Nat} {fr : En → Res (List Pyr.D)} {ρ ρ' : Frm} {u v : Pyr.D} (h : fr (purE ρ) = .ok [u, v]) (h2 : (ρ.set i (.val u)).set j (.val v) = ρ') : sPar i j fr ρ = .ok (.next ρ') := by
  unfold sPar
  rw [h, bind_ok, ← h2]
theorem setT_ok {t : Tg} {fe : En → Res Pyr.D} {ρ ρ' : Frm} {d : Pyr.D} (h : fe (purE ρ) = .ok d) (h2 : tgF t d ρ = .ok ρ') : sSetT t fe ρ = .ok (.next ρ') := by
  unfold sSetT
  rw [evP_ok h, bind_ok, h2]
  rfl
section
variable (vs : List Int) (hv : vs.length = 12) (s0 : Sl) (a b x y z : Str)
abbrev q9 (k : Int) (s5 s6 s7 s8 : Sl) : Frm := [s0, .val (.list (vs.map .int)), .val (nD a b), .val (wD3 x y z), .val (.int k), s5, s6, s7, s8]
include hv
theorem cas_arg (k : Int) (s5 s6 s7 s8 : Sl) : (aC (eVar 2) (aC (eVar 3) (aC (eN (oneD int2D) (aC (Pyr.e2 atD (eVar 1) (eC (.int 5))) Pyr.a0)) Pyr.a0))) (purE (q9 vs s0 a b x y z k s5 s6 s7 s8)) = .ok [nD a b, wD3 x y z, .int vs[5]] := by
  have a5 : atD (.list (vs.map .int)) (.int 5) = .ok (.int vs[5]) := int_at (k := 5) (by omega)
  exact aC_ok rfl (aC_ok rfl (aC_ok (Eq.trans (one_ok (x := .int vs[5]) (Eq.trans (e2_ok (x := .list (vs.map .int)) (y := .int 5) rfl rfl) a5)) rfl) rfl))
theorem br0 {u v : Pyr.D} {r : Res RV} (hlu : isLo u = false) (hlv : isLo v = false) (h : m__law_schema_case [nD a b, wD3 x y z, .int vs[5]] = .ok (.val (.tuple [u, v]))) (fin : outR (T_law_5 (q9 vs s0 a b x y z 0 (.val (.list [u])) (.val (.tuple [.int 0, v])) (.val u) (.val v))) = r) : outR (T_law_4 (q9 vs s0 a b x y z 0 .emp .emp .emp .emp)) = r := by
  unfold T_law_4
  refine seqO (ρ' := q9 vs s0 a b x y z 0 (.val (.list [u])) (.val (.tuple [.int 0, v])) (.val u) (.val v)) ?_ fin
  rw [if_ok (b := true) rfl, if_pos rfl]
  rw [seq_ok (ρ' := q9 vs s0 a b x y z 0 .emp .emp (.val u) (.val v)) (setT_ok (Eq.trans (call_ok (cas_arg vs hv s0 a b x y z 0 _ _ _ _) h) rfl) rfl)]
  have v7 : eVar 7 (purE (q9 vs s0 a b x y z 0 .emp .emp (.val u) (.val v))) = .ok u := by
    show (if isLo u then Res.bad else .ok u) = _
    rw [hlu]
    rfl
  have v8 : eVar 8 (purE (q9 vs s0 a b x y z 0 .emp .emp (.val u) (.val v))) = .ok v := by
    show (if isLo v then Res.bad else .ok v) = _
    rw [hlv]
    rfl
  refine par_ok (u := .list [u]) (v := .tuple [.int 0, v]) (aC_ok ?_ (aC_ok ?_ rfl)) rfl
  · exact mapL_ok (ds := [u]) (by unfold lN; rw [aC_ok v7 (xs := []) rfl]; rfl)
  · exact Eq.trans (eN_ok (xs := [.int 0, v]) (aC_ok rfl (aC_ok v8 rfl))) rfl
theorem br1 {u v : Pyr.D} {r : Res RV} (hlu : isLo u = false) (hlv : isLo v = false) (h : m__law_view_case [nD a b, wD3 x y z, .int vs[5]] = .ok (.val (.tuple [u, v]))) (fin : outR (T_law_5 (q9 vs s0 a b x y z 1 (.val (.list [.list [.str "view", .str "1"], u])) (.val (.tuple [.int 1, v])) (.val u) (.val v))) = r)
    (fin2 : outR (T_law_5 (q9 vs s0 a b x y z 1 (.val (.list [.list [.str "rule", .str "?0", .str "<-", .str a, .str "?0"]])) (.val (.tuple [.int 0, .int 0])) (.val u) (.val v))) = r) : outR (T_law_4 (q9 vs s0 a b x y z 1 .emp .emp .emp .emp)) = r := by
  have a6 : atD (.list (vs.map .int)) (.int 6) = .ok (.int vs[6]) := int_at (k := 6) (by omega)
  have v7 : eVar 7 (purE (q9 vs s0 a b x y z 1 .emp .emp (.val u) (.val v))) = .ok u := by
    show (if isLo u then Res.bad else .ok u) = _
    rw [hlu]
    rfl
  have v8 : eVar 8 (purE (q9 vs s0 a b x y z 1 .emp .emp (.val u) (.val v))) = .ok v := by
    show (if isLo v then Res.bad else .ok v) = _
    rw [hlv]
    rfl
  have hp : sPar 5 6 (aC (eL (lN (aC (eL (lN (aC (eC (.str "view")) (aC (eC (.str "1")) Pyr.a0)))) (aC (eVar 7) Pyr.a0)))) (aC (eN tupD (aC (eC (.int 1)) (aC (eVar 8) Pyr.a0))) Pyr.a0)) (q9 vs s0 a b x y z 1 .emp .emp (.val u) (.val v)) = .ok (.next (q9 vs s0 a b x y z 1 (.val (.list [.list [.str "view", .str "1"], u])) (.val (.tuple [.int 1, v])) (.val u) (.val v))) := by
    refine par_ok (u := .list [.list [.str "view", .str "1"], u]) (v := .tuple [.int 1, v]) (aC_ok ?_ (aC_ok ?_ rfl)) rfl
    · exact mapL_ok (ds := [.list [.str "view", .str "1"], u]) (by unfold lN; rw [aC_ok (x := .list [.str "view", .str "1"]) (xs := [u]) rfl (aC_ok v7 rfl)]; rfl)
    · exact Eq.trans (eN_ok (xs := [.int 1, v]) (aC_ok rfl (aC_ok v8 rfl))) rfl
  have hd : (tE boolD (Pyr.e2 eqD (Pyr.e2 modD (eN (oneD int2D) (aC (Pyr.e2 atD (eVar 1) (eC (.int 6))) Pyr.a0)) (eC (.int 5))) (eC (.int 0)))) (frzE (q9 vs s0 a b x y z 1 (.val (.list [.list [.str "view", .str "1"], u])) (.val (.tuple [.int 1, v])) (.val u) (.val v))) = .ok (decide (vs[6].fmod 5 = 0)) :=
    Eq.trans (tE_ok (x := .bool (decide (vs[6].fmod 5 = 0))) (Eq.trans (e2_ok (x := .int (vs[6].fmod 5)) (y := .int 0) (Eq.trans (e2_ok (x := .int vs[6]) (y := .int 5) (Eq.trans (one_ok (x := .int vs[6]) (Eq.trans (e2_ok (x := .list (vs.map .int)) (y := .int 6) rfl rfl) a6)) rfl) rfl) rfl) rfl) (eqD_int _ _))) rfl
  have hp2 : sPar 5 6 (aC (eL (lN (aC (eL (lN (aC (eC (.str "rule")) (aC (eC (.str "?0")) (aC (eC (.str "<-")) (aC (Pyr.e2 atD (eVar 2) (eC (.int 0))) (aC (eC (.str "?0")) Pyr.a0))))))) Pyr.a0))) (aC (eN tupD (aC (eC (.int 0)) (aC (eC (.int 0)) Pyr.a0))) Pyr.a0)) (q9 vs s0 a b x y z 1 (.val (.list [.list [.str "view", .str "1"], u])) (.val (.tuple [.int 1, v])) (.val u) (.val v)) = .ok (.next (q9 vs s0 a b x y z 1 (.val (.list [.list [.str "rule", .str "?0", .str "<-", .str a, .str "?0"]])) (.val (.tuple [.int 0, .int 0])) (.val u) (.val v))) := by
    refine par_ok (u := .list [.list [.str "rule", .str "?0", .str "<-", .str a, .str "?0"]]) (v := .tuple [.int 0, .int 0]) ?_ rfl
    kernel_rfl
  unfold T_law_4
  by_cases q : vs[6].fmod 5 = 0
  · rw [decide_eq_true q] at hd
    refine seqO (ρ' := q9 vs s0 a b x y z 1 (.val (.list [.list [.str "rule", .str "?0", .str "<-", .str a, .str "?0"]])) (.val (.tuple [.int 0, .int 0])) (.val u) (.val v)) ?_ fin2
    rw [if_ok (b := false) rfl, if_neg Bool.false_ne_true, if_ok (b := true) rfl, if_pos rfl]
    rw [seq_ok (ρ' := q9 vs s0 a b x y z 1 .emp .emp (.val u) (.val v)) (setT_ok (Eq.trans (call_ok (cas_arg vs hv s0 a b x y z 1 _ _ _ _) h) rfl) rfl), seq_ok hp, if_ok hd, if_pos rfl]
    exact hp2
  · rw [decide_eq_false q] at hd
    refine seqO (ρ' := q9 vs s0 a b x y z 1 (.val (.list [.list [.str "view", .str "1"], u])) (.val (.tuple [.int 1, v])) (.val u) (.val v)) ?_ fin
    rw [if_ok (b := false) rfl, if_neg Bool.false_ne_true, if_ok (b := true) rfl, if_pos rfl]
    rw [seq_ok (ρ' := q9 vs s0 a b x y z 1 .emp .emp (.val u) (.val v)) (setT_ok (Eq.trans (call_ok (cas_arg vs hv s0 a b x y z 1 _ _ _ _) h) rfl) rfl), seq_ok hp, if_ok hd, if_neg Bool.false_ne_true]
    rfl
theorem br2 {u v : Pyr.D} {r : Res RV} (h : m__law_wish_case [nD a b, wD3 x y z, .int vs[5]] = .ok (.val (.tuple [u, v]))) (fin : outR (T_law_5 (q9 vs s0 a b x y z 2 (.val u) (.val v) .emp .emp)) = r) : outR (T_law_4 (q9 vs s0 a b x y z 2 .emp .emp .emp .emp)) = r := by
  unfold T_law_4
  refine seqO (ρ' := q9 vs s0 a b x y z 2 (.val u) (.val v) .emp .emp) ?_ fin
  rw [if_ok (b := false) rfl, if_neg Bool.false_ne_true, if_ok (b := false) rfl, if_neg Bool.false_ne_true, if_ok (b := true) rfl, if_pos rfl]
  exact setT_ok (Eq.trans (call_ok (cas_arg vs hv s0 a b x y z 2 _ _ _ _) h) rfl) rfl
theorem br3 {u v : Pyr.D} {r : Res RV} (h : m__law_change_case [nD a b, wD3 x y z, .int vs[5]] = .ok (.val (.tuple [u, v]))) (fin : outR (T_law_5 (q9 vs s0 a b x y z 3 (.val u) (.val v) .emp .emp)) = r) : outR (T_law_4 (q9 vs s0 a b x y z 3 .emp .emp .emp .emp)) = r := by
  unfold T_law_4
  refine seqO (ρ' := q9 vs s0 a b x y z 3 (.val u) (.val v) .emp .emp) ?_ fin
  rw [if_ok (b := false) rfl, if_neg Bool.false_ne_true, if_ok (b := false) rfl, if_neg Bool.false_ne_true, if_ok (b := false) rfl, if_neg Bool.false_ne_true]
  exact setT_ok (Eq.trans (call_ok (cas_arg vs hv s0 a b x y z 3 _ _ _ _) h) rfl) rfl
end
theorem all0 (vs : List Int) (hv : vs.length = 12) (s0 : Sl) {a b x y z : Str} (ha : Wd a) (hb : Wd b) (hx : Wd x) (hy : Wd y) (hz : Wd z) (hab : a ≠ b) : outR (T_law_4 (q9 vs s0 a b x y z 0 .emp .emp .emp .emp)) = .ok (.val (.bool true)) := by
  have hf := facts_told ha hb hx hy hz hab
  obtain ⟨n, en, hn⟩ := fmod_nat vs[5] (m := 7) (by decide)
  have en : vs[5].fmod 7 = (n : Int) := en
  have hcase := case0 a b x y z vs[5] n en
  match n, hn, hcase with
  | 0, _, hcase => exact br0 vs hv s0 a b x y z rfl rfl (hcase _ _ rfl rfl) (t5_run vs hv s0 _ _ (.inl rfl) a b x y z ("table" : Str) [a, ("key" : Str)] [] 0 2 (by simp) (t0_0 ha hb hx hy hz hab) (fun _ _ => u0_0 ha hb hx hy hz hab) hf)
  | 1, _, hcase => exact br0 vs hv s0 a b x y z rfl rfl (hcase _ _ rfl rfl) (t5_run vs hv s0 _ _ (.inl rfl) a b x y z ("table" : Str) [a, ("2" : Str), ("1" : Str)] [] 0 3 (by simp) (t0_1 ha hb hx hy hz hab) (fun _ _ => u0_1 ha hb hx hy hz hab) hf)
  | 2, _, hcase => exact br0 vs hv s0 a b x y z rfl rfl (hcase _ _ rfl rfl) (t5_run vs hv s0 _ _ (.inl rfl) a b x y z ("table" : Str) [a, ("02" : Str)] [] 0 2 (by simp) (t0_2 ha hb hx hy hz hab) (fun _ _ => u0_2 ha hb hx hy hz hab) hf)
  | 3, _, hcase => exact br0 vs hv s0 a b x y z rfl rfl (hcase _ _ rfl rfl) (t5_run vs hv s0 _ _ (.inl rfl) a b x y z ("table" : Str) [a, ("2" : Str), ("key" : Str), ("x" : Str)] [] 0 4 (by simp) (t0_3 ha hb hx hy hz hab) (fun _ _ => u0_3 ha hb hx hy hz hab) hf)
  | 4, _, hcase => exact br0 vs hv s0 a b x y z rfl rfl (hcase _ _ rfl rfl) (t5_run vs hv s0 _ _ (.inl rfl) a b x y z ("table" : Str) [a, ("2" : Str), ("key" : Str), ("1" : Str), ("1" : Str)] [] 0 5 (by simp) (t0_4 ha hb hx hy hz hab) (fun _ _ => u0_4 ha hb hx hy hz hab) hf)
  | 5, _, hcase => exact br0 vs hv s0 a b x y z rfl rfl (hcase _ _ rfl rfl) (t5_run vs hv s0 _ _ (.inl rfl) a b x y z ("view" : Str) [a, ("2" : Str)] [] 0 0 (by simp) (t0_5 ha hb hx hy hz hab) (fun _ _ => u0_5 ha hb hx hy hz hab) hf)
  | 6, _, hcase => exact br0 vs hv s0 a b x y z rfl rfl (hcase _ _ rfl rfl) (t5_run vs hv s0 _ _ (.inl rfl) a b x y z ("table" : Str) [a, ("1234567" : Str)] [] 0 2 (by simp) (t0_6 ha hb hx hy hz hab) (fun _ _ => u0_6 ha hb hx hy hz hab) hf)
  | _ + 7, h, _ => exact absurd h (by omega)
theorem all1 (vs : List Int) (hv : vs.length = 12) (s0 : Sl) {a b x y z : Str} (ha : Wd a) (hb : Wd b) (hx : Wd x) (hy : Wd y) (hz : Wd z) (hab : a ≠ b) : outR (T_law_4 (q9 vs s0 a b x y z 1 .emp .emp .emp .emp)) = .ok (.val (.bool true)) := by
  have hf := facts_told ha hb hx hy hz hab
  obtain ⟨n, en, hn⟩ := fmod_nat vs[5] (m := 10) (by decide)
  have en : vs[5].fmod 10 = (n : Int) := en
  have hcase := case1 a b x y z vs[5] n en
  match n, hn, hcase with
  | 0, _, hcase => exact br1 vs hv s0 a b x y z rfl rfl (hcase _ _ rfl rfl) (t5_run vs hv s0 _ _ (.inr (.inl rfl)) a b x y z ("view" : Str) [("1" : Str)] [[("rule" : Str), ("<-" : Str), a, ("?0" : Str)]] 1 1 (by simp) (t1_0 ha hb hx hy hz hab) (fun _ _ => u1_0 ha hb hx hy hz hab) hf) (t5_run vs hv s0 _ _ (.inr (.inl rfl)) a b x y z "rule" [("?0" : Str), ("<-" : Str), a, ("?0" : Str)] [] 0 0 (by simp) (t1_r ha hb hx hy hz hab) (fun _ z => absurd rfl z) hf)
  | 1, _, hcase => exact br1 vs hv s0 a b x y z rfl rfl (hcase _ _ rfl rfl) (t5_run vs hv s0 _ _ (.inr (.inl rfl)) a b x y z ("view" : Str) [("1" : Str)] [[("rule" : Str), ("?0" : Str), ("<-" : Str), ("," : Str), a]] 1 3 (by simp) (t1_1 ha hb hx hy hz hab) (fun _ _ => u1_1 ha hb hx hy hz hab) hf) (t5_run vs hv s0 _ _ (.inr (.inl rfl)) a b x y z "rule" [("?0" : Str), ("<-" : Str), a, ("?0" : Str)] [] 0 0 (by simp) (t1_r ha hb hx hy hz hab) (fun _ z => absurd rfl z) hf)
  | 2, _, hcase => exact br1 vs hv s0 a b x y z rfl rfl (hcase _ _ rfl rfl) (t5_run vs hv s0 _ _ (.inr (.inl rfl)) a b x y z ("view" : Str) [("1" : Str)] [[("rule" : Str), ("?0" : Str), ("<-" : Str), a, (";" : Str)]] 1 4 (by simp) (t1_2 ha hb hx hy hz hab) (fun _ _ => u1_2 ha hb hx hy hz hab) hf) (t5_run vs hv s0 _ _ (.inr (.inl rfl)) a b x y z "rule" [("?0" : Str), ("<-" : Str), a, ("?0" : Str)] [] 0 0 (by simp) (t1_r ha hb hx hy hz hab) (fun _ z => absurd rfl z) hf)
  | 3, _, hcase => exact br1 vs hv s0 a b x y z rfl rfl (hcase _ _ rfl rfl) (t5_run vs hv s0 _ _ (.inr (.inl rfl)) a b x y z ("view" : Str) [("1" : Str)] [[("rule" : Str), ("?0" : Str), ("<-" : Str), a, ("?0" : Str), (";" : Str), ("?0" : Str), ("<-" : Str)]] 1 7 (by simp) (t1_3 ha hb hx hy hz hab) (fun _ _ => u1_3 ha hb hx hy hz hab) hf) (t5_run vs hv s0 _ _ (.inr (.inl rfl)) a b x y z "rule" [("?0" : Str), ("<-" : Str), a, ("?0" : Str)] [] 0 0 (by simp) (t1_r ha hb hx hy hz hab) (fun _ z => absurd rfl z) hf)
  | 4, _, hcase => exact br1 vs hv s0 a b x y z rfl rfl (hcase _ _ rfl rfl) (t5_run vs hv s0 _ _ (.inr (.inl rfl)) a b x y z ("view" : Str) [("1" : Str)] [[("rule" : Str), ("?0" : Str), ("<-" : Str), a, ("?0" : Str), ("," : Str), ("?1" : Str)]] 1 6 (by simp) (t1_4 ha hb hx hy hz hab) (fun _ _ => u1_4 ha hb hx hy hz hab) hf) (t5_run vs hv s0 _ _ (.inr (.inl rfl)) a b x y z "rule" [("?0" : Str), ("<-" : Str), a, ("?0" : Str)] [] 0 0 (by simp) (t1_r ha hb hx hy hz hab) (fun _ z => absurd rfl z) hf)
  | 5, _, hcase => exact br1 vs hv s0 a b x y z rfl rfl (hcase _ _ rfl rfl) (t5_run vs hv s0 _ _ (.inr (.inl rfl)) a b x y z ("view" : Str) [("1" : Str)] [[("rule" : Str), ("?0" : Str), ("<-" : Str), a, ("?0" : Str), (";" : Str), ("=" : Str), x]] 1 6 (by simp) (t1_5 ha hb hx hy hz hab) (fun _ _ => u1_5 ha hb hx hy hz hab) hf) (t5_run vs hv s0 _ _ (.inr (.inl rfl)) a b x y z "rule" [("?0" : Str), ("<-" : Str), a, ("?0" : Str)] [] 0 0 (by simp) (t1_r ha hb hx hy hz hab) (fun _ z => absurd rfl z) hf)
  | 6, _, hcase => exact br1 vs hv s0 a b x y z rfl rfl (hcase _ _ rfl rfl) (t5_run vs hv s0 _ _ (.inr (.inl rfl)) a b x y z ("view" : Str) [("1" : Str)] [[("rule" : Str), ("?0" : Str), ("<-" : Str), a, ("?0" : Str), ("," : Str)]] 1 6 (by simp) (t1_6 ha hb hx hy hz hab) (fun _ _ => u1_6 ha hb hx hy hz hab) hf) (t5_run vs hv s0 _ _ (.inr (.inl rfl)) a b x y z "rule" [("?0" : Str), ("<-" : Str), a, ("?0" : Str)] [] 0 0 (by simp) (t1_r ha hb hx hy hz hab) (fun _ z => absurd rfl z) hf)
  | 7, _, hcase => exact br1 vs hv s0 a b x y z rfl rfl (hcase _ _ rfl rfl) (t5_run vs hv s0 _ _ (.inr (.inl rfl)) a b x y z ("view" : Str) [("1" : Str)] [[("rule" : Str), ("?0" : Str), ("<-" : Str), a, ("?0" : Str), (";" : Str), ("?0" : Str), ("=" : Str), x, (";" : Str)]] 1 9 (by simp) (t1_7 ha hb hx hy hz hab) (fun _ _ => u1_7 ha hb hx hy hz hab) hf) (t5_run vs hv s0 _ _ (.inr (.inl rfl)) a b x y z "rule" [("?0" : Str), ("<-" : Str), a, ("?0" : Str)] [] 0 0 (by simp) (t1_r ha hb hx hy hz hab) (fun _ z => absurd rfl z) hf)
  | 8, _, hcase => exact br1 vs hv s0 a b x y z rfl rfl (hcase _ _ rfl rfl) (t5_run vs hv s0 _ _ (.inr (.inl rfl)) a b x y z ("view" : Str) [("1" : Str)] [[("view" : Str), ("01" : Str)]] 1 1 (by simp) (t1_8 ha hb hx hy hz hab) (fun _ _ => u1_8 ha hb hx hy hz hab) hf) (t5_run vs hv s0 _ _ (.inr (.inl rfl)) a b x y z "rule" [("?0" : Str), ("<-" : Str), a, ("?0" : Str)] [] 0 0 (by simp) (t1_r ha hb hx hy hz hab) (fun _ z => absurd rfl z) hf)
  | 9, _, hcase => exact br1 vs hv s0 a b x y z rfl rfl (hcase _ _ rfl rfl) (t5_run vs hv s0 _ _ (.inr (.inl rfl)) a b x y z ("view" : Str) [("1" : Str)] [[("view" : Str), ("1" : Str), ("1" : Str)]] 1 2 (by simp) (t1_9 ha hb hx hy hz hab) (fun _ _ => u1_9 ha hb hx hy hz hab) hf) (t5_run vs hv s0 _ _ (.inr (.inl rfl)) a b x y z "rule" [("?0" : Str), ("<-" : Str), a, ("?0" : Str)] [] 0 0 (by simp) (t1_r ha hb hx hy hz hab) (fun _ z => absurd rfl z) hf)
  | _ + 10, h, _ => exact absurd h (by omega)
theorem all2 (vs : List Int) (hv : vs.length = 12) (s0 : Sl) {a b x y z : Str} (ha : Wd a) (hb : Wd b) (hx : Wd x) (hy : Wd y) (hz : Wd z) (hab : a ≠ b) : outR (T_law_4 (q9 vs s0 a b x y z 2 .emp .emp .emp .emp)) = .ok (.val (.bool true)) := by
  have hf := facts_told ha hb hx hy hz hab
  obtain ⟨n, en, hn⟩ := fmod_nat vs[5] (m := 9) (by decide)
  have en : vs[5].fmod 9 = (n : Int) := en
  have hcase := case2 a b x y z vs[5] n en
  match n, hn, hcase with
  | 0, _, hcase => exact br2 vs hv s0 a b x y z (hcase _ _ rfl rfl) (t5_run vs hv s0 _ _ (.inr (.inr (.inl rfl))) a b x y z ("may" : Str) [b] [] 0 1 (by simp) (t2_0 ha hb hx hy hz hab) (fun z => absurd rfl z) hf)
  | 1, _, hcase => exact br2 vs hv s0 a b x y z (hcase _ _ rfl rfl) (t5_run vs hv s0 _ _ (.inr (.inr (.inl rfl))) a b x y z ("may" : Str) [a, ("insert" : Str), ("delete" : Str)] [] 0 3 (by simp) (t2_1 ha hb hx hy hz hab) (fun z => absurd rfl z) hf)
  | 2, _, hcase => exact br2 vs hv s0 a b x y z (hcase _ _ rfl rfl) (t5_run vs hv s0 _ _ (.inr (.inr (.inl rfl))) a b x y z ("may" : Str) [a, ("delete" : Str), ("delete" : Str)] [] 0 3 (by simp) (t2_2 ha hb hx hy hz hab) (fun z => absurd rfl z) hf)
  | 3, _, hcase => exact br2 vs hv s0 a b x y z (hcase _ _ rfl rfl) (t5_run vs hv s0 _ _ (.inr (.inr (.inl rfl))) a b x y z ("add" : Str) [("0" : Str), x] [] 0 0 (by simp) (t2_3 ha hb hx hy hz hab) (fun z => absurd rfl z) hf)
  | 4, _, hcase => exact br2 vs hv s0 a b x y z (hcase _ _ rfl rfl) (t5_run vs hv s0 _ _ (.inr (.inr (.inl rfl))) a b x y z ("may" : Str) [a] [[("may" : Str), b, ("delete" : Str)], [("may" : Str), a]] 2 0 (by simp) (t2_4 ha hb hx hy hz hab) (fun z => absurd rfl z) hf)
  | 5, _, hcase => exact br2 vs hv s0 a b x y z (hcase _ _ rfl rfl) (t5_run vs hv s0 _ _ (.inr (.inr (.inl rfl))) a b x y z ("may" : Str) [a] [[("may" : Str), b, ("delete" : Str)], [("add" : Str), ("one" : Str), x]] 2 1 (by simp) (t2_5 ha hb hx hy hz hab) (fun z => absurd rfl z) hf)
  | 6, _, hcase => exact br2 vs hv s0 a b x y z (hcase _ _ rfl rfl) (t5_run vs hv s0 _ _ (.inr (.inr (.inl rfl))) a b x y z ("may" : Str) [a] [[("may" : Str), a]] 1 1 (by simp) (t2_6 ha hb hx hy hz hab) (fun z => absurd rfl z) hf)
  | 7, _, hcase => exact br2 vs hv s0 a b x y z (hcase _ _ rfl rfl) (t5_run vs hv s0 _ _ (.inr (.inr (.inl rfl))) a b x y z ("may" : Str) [a] [[("may" : Str), b, ("delete" : Str)], [("remove" : Str), ("00" : Str), x]] 2 1 (by simp) (t2_7 ha hb hx hy hz hab) (fun z => absurd rfl z) hf)
  | 8, _, hcase => exact br2 vs hv s0 a b x y z (hcase _ _ rfl rfl) (t5_run vs hv s0 _ _ (.inr (.inr (.inl rfl))) a b x y z ("may" : Str) [a] [[("may" : Str), b, ("delete" : Str)], [("remove" : Str), ("0" : Str)]] 2 2 (by simp) (t2_8 ha hb hx hy hz hab) (fun z => absurd rfl z) hf)
  | _ + 9, h, _ => exact absurd h (by omega)
theorem all3 (vs : List Int) (hv : vs.length = 12) (s0 : Sl) {a b x y z : Str} (ha : Wd a) (hb : Wd b) (hx : Wd x) (hy : Wd y) (hz : Wd z) (hab : a ≠ b) : outR (T_law_4 (q9 vs s0 a b x y z 3 .emp .emp .emp .emp)) = .ok (.val (.bool true)) := by
  have hf := facts_told ha hb hx hy hz hab
  obtain ⟨n, en, hn⟩ := fmod_nat vs[5] (m := 4) (by decide)
  have en : vs[5].fmod 4 = (n : Int) := en
  have hcase := case3 a b x y z vs[5] n en
  match n, hn, hcase with
  | 0, _, hcase => exact br3 vs hv s0 a b x y z (hcase _ _ rfl rfl) (t5_run vs hv s0 _ _ (.inr (.inr (.inr rfl))) a b x y z ("insert" : Str) [a, x] [[("delete" : Str), a, x]] 1 0 (by simp) (t3_0 ha hb hx hy hz hab) (fun _ _ => u3_0 ha hb hx hy hz hab) hf)
  | 1, _, hcase => exact br3 vs hv s0 a b x y z (hcase _ _ rfl rfl) (t5_run vs hv s0 _ _ (.inr (.inr (.inr rfl))) a b x y z ("remove" : Str) [a, x] [] 0 0 (by simp) (t3_1 ha hb hx hy hz hab) (fun _ _ => u3_1 ha hb hx hy hz hab) hf)
  | 2, _, hcase => exact br3 vs hv s0 a b x y z (hcase _ _ rfl rfl) (t5_run vs hv s0 _ _ (.inr (.inr (.inr rfl))) a b x y z ("delete" : Str) [a, x] [[("insert" : Str), a, x], [("delete" : Str), a, x]] 2 0 (by simp) (t3_2 ha hb hx hy hz hab) (fun _ _ => u3_2 ha hb hx hy hz hab) hf)
  | 3, _, hcase => exact br3 vs hv s0 a b x y z (hcase _ _ rfl rfl) (t5_run vs hv s0 _ _ (.inr (.inr (.inr rfl))) a b x y z ("insert" : Str) [("delete" : Str), a, x] [[("?" : Str)]] 1 0 (by simp) (t3_3 ha hb hx hy hz hab) (fun _ _ => u3_3 ha hb hx hy hz hab) hf)
  | _ + 4, h, _ => exact absurd h (by omega)
theorem two {ws : List Str} (h : ws.length = 2) (hw : ∀ w ∈ ws, Wd w) (hn : ws.Nodup) : ∃ a b, ws = [a, b] ∧ Wd a ∧ Wd b ∧ a ≠ b := by
  match ws, h with
  | [a, b], _ => exact ⟨a, b, rfl, hw a (by simp), hw b (by simp), by simpa using hn⟩
theorem three {ws : List Str} (h : ws.length = 3) (hw : ∀ w ∈ ws, Wd w) : ∃ a b c, ws = [a, b, c] ∧ Wd a ∧ Wd b ∧ Wd c := by
  match ws, h with
  | [a, b, c], _ => exact ⟨a, b, c, rfl, hw a (by simp), hw b (by simp), hw c (by simp)⟩
theorem law_true (ns : List Int) (hns : ns.length ≤ 63) : m_law [scriptD ns] = .ok (.val (.bool true)) := by
  obtain ⟨vs, e0, hv, hd⟩ := draws_run ns 12 hns (by decide)
  have e0 : m__law_draws [scriptD ns, .int 12] = .ok (.own (vs.map .int)) := e0
  obtain ⟨n1, e1, h1, w1, d1⟩ := pool_run vs[0] vs[1] 2 (by decide) (hd _ (List.getElem_mem _)) (hd _ (List.getElem_mem _))
  have e1 : m__law_pool [.int vs[0], .int vs[1], .int 2] = .ok (.own (n1.map .str)) := e1
  obtain ⟨n2, e2, h2, w2, _⟩ := pool_run vs[2] vs[3] 3 (by decide) (hd _ (List.getElem_mem _)) (hd _ (List.getElem_mem _))
  have e2 : m__law_pool [.int vs[2], .int vs[3], .int 3] = .ok (.own (n2.map .str)) := e2
  obtain ⟨a, b, rfl, ha, hb, hab⟩ := two h1 w1 d1
  obtain ⟨x, y, z, rfl, hx, hy, hz⟩ := three h2 w2
  have a0 : atD (.list (vs.map .int)) (.int 0) = .ok (.int vs[0]) := int_at (k := 0) (by omega)
  have a1 : atD (.list (vs.map .int)) (.int 1) = .ok (.int vs[1]) := int_at (k := 1) (by omega)
  have a2 : atD (.list (vs.map .int)) (.int 2) = .ok (.int vs[2]) := int_at (k := 2) (by omega)
  have a3 : atD (.list (vs.map .int)) (.int 3) = .ok (.int vs[3]) := int_at (k := 3) (by omega)
  have a4 : atD (.list (vs.map .int)) (.int 4) = .ok (.int vs[4]) := int_at (k := 4) (by omega)
  unfold m_law
  rw [defM_eq (np := 1) rfl]
  show outR (F_law [.val (scriptD ns), .emp, .emp, .emp, .emp, .emp, .emp, .emp, .emp]) = _
  unfold F_law
  refine seqO (ρ' := [.val (scriptD ns), .val (.list (vs.map .int)), .emp, .emp, .emp, .emp, .emp, .emp, .emp]) (set_ok (Eq.trans (call_ok (xs := [scriptD ns, .int 12]) rfl e0) rfl)) ?_
  unfold T_law_1
  refine seqO (ρ' := [.val (scriptD ns), .val (.list (vs.map .int)), .val (nD a b), .emp, .emp, .emp, .emp, .emp, .emp]) (set_ok (Eq.trans (call_ok (xs := [.int vs[0], .int vs[1], .int 2]) (aC_ok (Eq.trans (e2_ok (x := .list (vs.map .int)) (y := .int 0) rfl rfl) a0) (aC_ok (Eq.trans (e2_ok (x := .list (vs.map .int)) (y := .int 1) rfl rfl) a1) rfl)) e1) rfl)) ?_
  unfold T_law_2
  refine seqO (ρ' := [.val (scriptD ns), .val (.list (vs.map .int)), .val (nD a b), .val (wD3 x y z), .emp, .emp, .emp, .emp, .emp]) (set_ok (Eq.trans (call_ok (xs := [.int vs[2], .int vs[3], .int 3]) (aC_ok (Eq.trans (e2_ok (x := .list (vs.map .int)) (y := .int 2) rfl rfl) a2) (aC_ok (Eq.trans (e2_ok (x := .list (vs.map .int)) (y := .int 3) rfl rfl) a3) rfl)) e2) rfl)) ?_
  unfold T_law_3
  obtain ⟨k, ek, hk⟩ := fmod_nat vs[4] (m := 4) (by decide)
  have ek : vs[4].fmod 4 = (k : Int) := ek
  refine seqO (ρ' := q9 vs (.val (scriptD ns)) a b x y z (k : Int) .emp .emp .emp .emp) (set_ok (Eq.trans (e2_ok (x := .int vs[4]) (y := .int 4) (Eq.trans (one_ok (x := .int vs[4]) (Eq.trans (e2_ok (x := .list (vs.map .int)) (y := .int 4) rfl rfl) a4)) rfl) rfl) (by rw [← ek]; rfl))) ?_
  match k, hk with
  | 0, _ => exact all0 vs hv _ ha hb hx hy hz hab
  | 1, _ => exact all1 vs hv _ ha hb hx hy hz hab
  | 2, _ => exact all2 vs hv _ ha hb hx hy hz hab
  | 3, _ => exact all3 vs hv _ ha hb hx hy hz hab
  | _ + 4, h => exact absurd h (by omega)
theorem ends {P : Program} {w : World} {K : PySem.W.Frag} {mg : Str → Option Value} {h : Heap} {fa : Addr} {q : Program} {c_read_number P_read_number : Addr} {dd_read_number : DefRec} {c_is_word P_is_word : Addr} {dd_is_word : DefRec} (X : K.In h) (G : h.Ns mainGlobals mg) (hfa : mg "law" = some (.ref fa)) (tabs : ∀ (y : Str) (dd : DefRec) (c P : Addr), (recsOf q).find? (fun e => e.name == y) = some dd → PySem.W.tabIn K y = some (c, P) → PySem.W.CodeHd h c P ∧ h.get? P = some (PySem.W.tabObj #[])) (d__law_draws : DefIn K "_law_draws" s__law_draws) (d__law_pool : DefIn K "_law_pool" s__law_pool) (d__law_schema_case : DefIn K "_law_schema_case" s__law_schema_case) (d__law_view_case : DefIn K "_law_view_case" s__law_view_case) (d__law_wish_case : DefIn K "_law_wish_case" s__law_wish_case) (d__law_change_case : DefIn K "_law_change_case" s__law_change_case) (d__law_ahead : DefIn K "_law_ahead" s__law_ahead) (d_read_number : DefInC K "read_number" s_read_number (.ref c_read_number)) (d__table_of : DefIn K "_table_of" s__table_of) (d_lines_of : DefIn K "lines_of" s_lines_of) (d_words_of : DefIn K "words_of" s_words_of) (d_is_word : DefInC K "is_word" s_is_word (.ref c_is_word)) (d_read_term : DefIn K "read_term" s_read_term) (d__is_of_kind : DefIn K "_is_of_kind" s__is_of_kind) (d__state_behind : DefIn K "_state_behind" s__state_behind) (d__read_lines : DefIn K "_read_lines" s__read_lines) (d_read_schema : DefIn K "read_schema" s_read_schema) (d_read_views : DefIn K "read_views" s_read_views) (d__wish_steps : DefIn K "_wish_steps" s__wish_steps) (d_read_wish : DefIn K "read_wish" s_read_wish) (d_read_change : DefIn K "read_change" s_read_change) (d__law_read : DefIn K "_law_read" s__law_read) (d__law_is_integer : DefIn K "_law_is_integer" s__law_is_integer) (d__law_told : DefIn K "_law_told" s__law_told) (d__fact_of : DefIn K "_fact_of" s__fact_of) (d__facts_of : DefIn K "_facts_of" s__facts_of) (d_read_facts : DefIn K "read_facts" s_read_facts) (d__law_facts_told : DefIn K "_law_facts_told" s__law_facts_told) (d_law : DefIn K "law" s_law) (y_all : PySem.W.nsIn K mainGlobals "all" = some none) (y_bool : PySem.W.nsIn K mainGlobals "bool" = some none) (y_dict : PySem.W.nsIn K mainGlobals "dict" = some none) (y_enumerate : PySem.W.nsIn K mainGlobals "enumerate" = some none) (y_int : PySem.W.nsIn K mainGlobals "int" = some none) (y_isinstance : PySem.W.nsIn K mainGlobals "isinstance" = some none) (y_len : PySem.W.nsIn K mainGlobals "len" = some none) (y_list : PySem.W.nsIn K mainGlobals "list" = some none) (y_range : PySem.W.nsIn K mainGlobals "range" = some none) (y_str : PySem.W.nsIn K mainGlobals "str" = some none) (y_tuple : PySem.W.nsIn K mainGlobals "tuple" = some none) (iq_BadText : InitQ K "BadText" "BadText.__init__" ["line", "column"] mt_BadText) (xfq_0 : XfQ K "BadText" "line") (xfq_1 : XfQ K "BadText" "column") (cq_BadText_BadText : CtQ K "BadText" "BadText" true) (g_CHANGE_STEPS : GDicQ K w "CHANGE_STEPS" [(("line" : Str), (.tuple [.tuple [.str "delete", .str "deleted"], .tuple [.str "insert", .str "inserted"]] : D)), (("deleted" : Str), (.tuple [.tuple [.str "NAME", .str "first deleted"]] : D)), (("first deleted" : Str), (.tuple [.tuple [.str "NAME", .str "more deleted"]] : D)), (("more deleted" : Str), (.tuple [.tuple [.str "NAME", .str "more deleted"], .tuple [.str "\n", .str "line"]] : D)), (("later line" : Str), (.tuple [.tuple [.str "insert", .str "inserted"]] : D)), (("inserted" : Str), (.tuple [.tuple [.str "NAME", .str "first inserted"]] : D)), (("first inserted" : Str), (.tuple [.tuple [.str "NAME", .str "more inserted"]] : D)), (("more inserted" : Str), (.tuple [.tuple [.str "NAME", .str "more inserted"], .tuple [.str "\n", .str "later line"]] : D))]) (g_DIGITS : ∃ t, PySem.W.nsIn K mainGlobals "DIGITS" = some (some (.str "0123456789" t))) (g_EDIT_STEPS : GDicQ K w "EDIT_STEPS" [(("edit" : Str), (.tuple [.tuple [.str "add", .str "place"], .tuple [.str "remove", .str "place"]] : D)), (("place" : Str), (.tuple [.tuple [.str "NUMBER", .str "first word"]] : D)), (("first word" : Str), (.tuple [.tuple [.str "NAME", .str "more words"]] : D)), (("more words" : Str), (.tuple [.tuple [.str "NAME", .str "more words"], .tuple [.str "\n", .str "edit"]] : D))]) (g_FACTS_STEPS : GDicQ K w "FACTS_STEPS" [(("line" : Str), (.tuple [.tuple [.str "NAME", .str "first word"]] : D)), (("first word" : Str), (.tuple [.tuple [.str "NAME", .str "more words"]] : D)), (("more words" : Str), (.tuple [.tuple [.str "NAME", .str "more words"], .tuple [.str "\n", .str "line"]] : D))]) (g_LETTERS : ∃ t, PySem.W.nsIn K mainGlobals "LETTERS" = some (some (.str "abcdefghijklmnopqrstuvwxyz0123456789" t))) (g_MOST_DIGITS : ∃ t, PySem.W.nsIn K mainGlobals "MOST_DIGITS" = some (some (.int 6 t))) (g_MOST_LETTERS : ∃ t, PySem.W.nsIn K mainGlobals "MOST_LETTERS" = some (some (.int 12 t))) (g_SCHEMA_STEPS : GDicQ K w "SCHEMA_STEPS" [(("line" : Str), (.tuple [.tuple [.str "table", .str "name"]] : D)), (("name" : Str), (.tuple [.tuple [.str "NAME", .str "width"]] : D)), (("width" : Str), (.tuple [.tuple [.str "NUMBER", .str "behind width"]] : D)), (("behind width" : Str), (.tuple [.tuple [.str "key", .str "key"], .tuple [.str "\n", .str "line"]] : D)), (("key" : Str), (.tuple [.tuple [.str "NUMBER", .str "behind key"]] : D)), (("behind key" : Str), (.tuple [.tuple [.str "\n", .str "line"]] : D))]) (g_VARIABLES : ∃ t, PySem.W.nsIn K mainGlobals "VARIABLES" = some (some (.str "01234567" t))) (g_VIEWS_STEPS : GDicQ K w "VIEWS_STEPS" [(("line" : Str), (.tuple [.tuple [.str "view", .str "width"]] : D)), (("later line" : Str), (.tuple [.tuple [.str "view", .str "width"], .tuple [.str "rule", .str "first of head"]] : D)), (("width" : Str), (.tuple [.tuple [.str "NUMBER", .str "behind width"]] : D)), (("behind width" : Str), (.tuple [.tuple [.str "\n", .str "later line"]] : D)), (("first of head" : Str), (.tuple [.tuple [.str "TERM", .str "more of head"]] : D)), (("more of head" : Str), (.tuple [.tuple [.str "TERM", .str "more of head"], .tuple [.str "<-", .str "atom"]] : D)), (("atom" : Str), (.tuple [.tuple [.str "NAME", .str "first of atom"]] : D)), (("first of atom" : Str), (.tuple [.tuple [.str "TERM", .str "more of atom"]] : D)), (("more of atom" : Str), (.tuple [.tuple [.str "TERM", .str "more of atom"], .tuple [.str ",", .str "atom"], .tuple [.str ";", .str "condition"], .tuple [.str "\n", .str "later line"]] : D)), (("condition" : Str), (.tuple [.tuple [.str "TERM", .str "sign"]] : D)), (("sign" : Str), (.tuple [.tuple [.str "=", .str "right side"], .tuple [.str "!=", .str "right side"]] : D)), (("right side" : Str), (.tuple [.tuple [.str "TERM", .str "behind condition"]] : D)), (("behind condition" : Str), (.tuple [.tuple [.str ",", .str "condition"], .tuple [.str "\n", .str "later line"]] : D))]) (r_read_number : (recsOf q).find? (fun e => e.name == ("read_number" : Str)) = some dd_read_number) (t_read_number : PySem.W.tabIn K "read_number" = some (c_read_number, P_read_number)) (n_read_number : K.lookup P_read_number = none) (r_is_word : (recsOf q).find? (fun e => e.name == ("is_word" : Str)) = some dd_is_word) (t_is_word : PySem.W.tabIn K "is_word" = some (c_is_word, P_is_word)) (n_is_word : K.lookup P_is_word = none) :
    ∃ (fd : FuncData) (cs : List (Addr × Addr)), (∀ p ∈ cs, PySem.W.CodeHd h p.1 p.2 ∧ h.get? p.2 = some (PySem.W.tabObj #[])) ∧ (∀ p ∈ cs, K.lookup p.2 = none) ∧ (∀ (s : Shared) (u : Value), BindsTo s fd ⟨[u], []⟩ [("script", u)]) ∧ ∀ base : Heap, K.In base → base.Ns mainGlobals mg → (∀ p ∈ cs, GxR.TabB base mg p.1 p.2) → FnTop P w K mg base fa fd ["script"] (spLawT K (cs.map (·.2))) := by
  have kf_BadText : ∀ base : Heap, KnownX P w K mg base "BadText" ["line", "column"] := fun base => iq_BadText.known2 X G ms_BadText bm_BadText rfl (Or.inl rfl) (Or.inl rfl) (Or.inl rfl) (by decide) (by decide) (by decide) (by decide) 
  have q__law_draws : ∀ base : Heap, (∀ p ∈ [(c_read_number, P_read_number), (c_is_word, P_is_word)], GxR.TabB base mg p.1 p.2) → Known (TabList.mk (List.map (·.2) [(c_read_number, P_read_number), (c_is_word, P_is_word)]) P w) P w K mg base 1 "_law_draws" ["script", "count"] m__law_draws := fun base ht => kn__law_draws (PySem.W.mg_none_of X G y_int) (PySem.W.mg_none_of X G y_len) (PySem.W.mg_none_of X G y_range)   (d__law_draws.dfn X G bo__law_draws)
  have q__law_pool : ∀ base : Heap, (∀ p ∈ [(c_read_number, P_read_number), (c_is_word, P_is_word)], GxR.TabB base mg p.1 p.2) → Known (TabList.mk (List.map (·.2) [(c_read_number, P_read_number), (c_is_word, P_is_word)]) P w) P w K mg base 1 "_law_pool" ["first", "second", "many"] m__law_pool := fun base ht => kn__law_pool (PySem.W.mg_none_of X G y_int) (PySem.W.mg_none_of X G y_range)   (d__law_pool.dfn X G bo__law_pool)
  have q__law_schema_case : ∀ base : Heap, (∀ p ∈ [(c_read_number, P_read_number), (c_is_word, P_is_word)], GxR.TabB base mg p.1 p.2) → Known (TabList.mk (List.map (·.2) [(c_read_number, P_read_number), (c_is_word, P_is_word)]) P w) P w K mg base 1 "_law_schema_case" ["names", "words", "case"] m__law_schema_case := fun base ht => kn__law_schema_case (PySem.W.mg_none_of X G y_int)   (d__law_schema_case.dfn X G bo__law_schema_case)
  have q__law_view_case : ∀ base : Heap, (∀ p ∈ [(c_read_number, P_read_number), (c_is_word, P_is_word)], GxR.TabB base mg p.1 p.2) → Known (TabList.mk (List.map (·.2) [(c_read_number, P_read_number), (c_is_word, P_is_word)]) P w) P w K mg base 1 "_law_view_case" ["names", "words", "case"] m__law_view_case := fun base ht => kn__law_view_case (PySem.W.mg_none_of X G y_int)   (d__law_view_case.dfn X G bo__law_view_case)
  have q__law_wish_case : ∀ base : Heap, (∀ p ∈ [(c_read_number, P_read_number), (c_is_word, P_is_word)], GxR.TabB base mg p.1 p.2) → Known (TabList.mk (List.map (·.2) [(c_read_number, P_read_number), (c_is_word, P_is_word)]) P w) P w K mg base 1 "_law_wish_case" ["names", "words", "case"] m__law_wish_case := fun base ht => kn__law_wish_case (PySem.W.mg_none_of X G y_int)   (d__law_wish_case.dfn X G bo__law_wish_case)
  have q__law_change_case : ∀ base : Heap, (∀ p ∈ [(c_read_number, P_read_number), (c_is_word, P_is_word)], GxR.TabB base mg p.1 p.2) → Known (TabList.mk (List.map (·.2) [(c_read_number, P_read_number), (c_is_word, P_is_word)]) P w) P w K mg base 1 "_law_change_case" ["names", "words", "case"] m__law_change_case := fun base ht => kn__law_change_case (PySem.W.mg_none_of X G y_int)   (d__law_change_case.dfn X G bo__law_change_case)
  have q__law_ahead : ∀ base : Heap, (∀ p ∈ [(c_read_number, P_read_number), (c_is_word, P_is_word)], GxR.TabB base mg p.1 p.2) → Known (TabList.mk (List.map (·.2) [(c_read_number, P_read_number), (c_is_word, P_is_word)]) P w) P w K mg base 1 "_law_ahead" ["kind", "names", "words"] m__law_ahead := fun base ht => kn__law_ahead    (d__law_ahead.dfn X G bo__law_ahead)
  have q_read_number : ∀ base : Heap, (∀ p ∈ [(c_read_number, P_read_number), (c_is_word, P_is_word)], GxR.TabB base mg p.1 p.2) → Known (TabList.mk (List.map (·.2) [(c_read_number, P_read_number), (c_is_word, P_is_word)]) P w) P w K mg base 2 "read_number" ["word"] m_read_number := fun base ht => kn_read_number (ht (c_read_number, P_read_number) List.mem_cons_self) List.mem_cons_self (PySem.W.mg_none_of X G y_all) (PySem.W.mg_none_of X G y_int) (PySem.W.mg_none_of X G y_len) (gstr_of X G g_DIGITS) (gint_of X G g_MOST_DIGITS)  (d_read_number.dfn X G bo_read_number)
  have q__table_of : ∀ base : Heap, (∀ p ∈ [(c_read_number, P_read_number), (c_is_word, P_is_word)], GxR.TabB base mg p.1 p.2) → Known (TabList.mk (List.map (·.2) [(c_read_number, P_read_number), (c_is_word, P_is_word)]) P w) P w K mg base 3 "_table_of" ["words"] m__table_of := fun base ht => kn__table_of (PySem.W.mg_none_of X G y_len)  (q_read_number base ht) (d__table_of.dfn X G bo__table_of)
  have q_lines_of : ∀ base : Heap, (∀ p ∈ [(c_read_number, P_read_number), (c_is_word, P_is_word)], GxR.TabB base mg p.1 p.2) → KnownG (TabList.mk (List.map (·.2) [(c_read_number, P_read_number), (c_is_word, P_is_word)]) P w) P w K mg base 1 "lines_of" ["text"] m_lines_of := fun base ht => kn_lines_of    (d_lines_of.dfn X G bo_lines_of)
  have q_words_of : ∀ base : Heap, (∀ p ∈ [(c_read_number, P_read_number), (c_is_word, P_is_word)], GxR.TabB base mg p.1 p.2) → Known (TabList.mk (List.map (·.2) [(c_read_number, P_read_number), (c_is_word, P_is_word)]) P w) P w K mg base 1 "words_of" ["line"] m_words_of := fun base ht => kn_words_of (PySem.W.mg_none_of X G y_len)   (d_words_of.dfn X G bo_words_of)
  have q_is_word : ∀ base : Heap, (∀ p ∈ [(c_read_number, P_read_number), (c_is_word, P_is_word)], GxR.TabB base mg p.1 p.2) → Known (TabList.mk (List.map (·.2) [(c_read_number, P_read_number), (c_is_word, P_is_word)]) P w) P w K mg base 2 "is_word" ["value"] m_is_word := fun base ht => kn_is_word (ht (c_is_word, P_is_word) (List.mem_cons_of_mem _ List.mem_cons_self)) (List.mem_cons_of_mem _ List.mem_cons_self) (PySem.W.mg_none_of X G y_all) (PySem.W.mg_none_of X G y_isinstance) (PySem.W.mg_none_of X G y_len) (PySem.W.mg_none_of X G y_str) (gstr_of X G g_LETTERS) (gint_of X G g_MOST_LETTERS)  (d_is_word.dfn X G bo_is_word)
  have q_read_term : ∀ base : Heap, (∀ p ∈ [(c_read_number, P_read_number), (c_is_word, P_is_word)], GxR.TabB base mg p.1 p.2) → Known (TabList.mk (List.map (·.2) [(c_read_number, P_read_number), (c_is_word, P_is_word)]) P w) P w K mg base 3 "read_term" ["word"] m_read_term := fun base ht => kn_read_term (PySem.W.mg_none_of X G y_int) (PySem.W.mg_none_of X G y_len) (gstr_of X G g_VARIABLES) (q_is_word base ht) (d_read_term.dfn X G bo_read_term)
  have q__is_of_kind : ∀ base : Heap, (∀ p ∈ [(c_read_number, P_read_number), (c_is_word, P_is_word)], GxR.TabB base mg p.1 p.2) → Known (TabList.mk (List.map (·.2) [(c_read_number, P_read_number), (c_is_word, P_is_word)]) P w) P w K mg base 4 "_is_of_kind" ["word", "kind"] m__is_of_kind := fun base ht => kn__is_of_kind   (q_is_word base ht) (q_read_number base ht) (q_read_term base ht) (d__is_of_kind.dfn X G bo__is_of_kind)
  have q__state_behind : ∀ base : Heap, (∀ p ∈ [(c_read_number, P_read_number), (c_is_word, P_is_word)], GxR.TabB base mg p.1 p.2) → Known (TabList.mk (List.map (·.2) [(c_read_number, P_read_number), (c_is_word, P_is_word)]) P w) P w K mg base 5 "_state_behind" ["choices", "word"] m__state_behind := fun base ht => kn__state_behind   (q__is_of_kind base ht) (d__state_behind.dfn X G bo__state_behind)
  have q__read_lines : ∀ base : Heap, (∀ p ∈ [(c_read_number, P_read_number), (c_is_word, P_is_word)], GxR.TabB base mg p.1 p.2) → Known (TabList.mk (List.map (·.2) [(c_read_number, P_read_number), (c_is_word, P_is_word)]) P w) P w K mg base 6 "_read_lines" ["text", "steps"] m__read_lines := fun base ht => kn__read_lines (PySem.W.mg_none_of X G y_enumerate) (PySem.W.mg_none_of X G y_len) (PySem.W.mg_none_of X G y_list)  (q__state_behind base ht) (q_lines_of base ht) (q_words_of base ht) (kf_BadText base) (d__read_lines.dfn X G bo__read_lines)
  have q_read_schema : ∀ base : Heap, (∀ p ∈ [(c_read_number, P_read_number), (c_is_word, P_is_word)], GxR.TabB base mg p.1 p.2) → Known (TabList.mk (List.map (·.2) [(c_read_number, P_read_number), (c_is_word, P_is_word)]) P w) P w K mg base 7 "read_schema" ["text"] m_read_schema := fun base ht => kn_read_schema (PySem.W.mg_none_of X G y_dict) (gdic_of X G g_SCHEMA_STEPS) (q__read_lines base ht) (q__table_of base ht) (d_read_schema.dfn X G bo_read_schema)
  have q_read_views : ∀ base : Heap, (∀ p ∈ [(c_read_number, P_read_number), (c_is_word, P_is_word)], GxR.TabB base mg p.1 p.2) → Known (TabList.mk (List.map (·.2) [(c_read_number, P_read_number), (c_is_word, P_is_word)]) P w) P w K mg base 7 "read_views" ["schema", "text"] m_read_views := fun base ht => kn_read_views (PySem.W.mg_none_of X G y_dict) (gdic_of X G g_VIEWS_STEPS) (q__read_lines base ht) (d_read_views.dfn X G bo_read_views)
  have q__wish_steps : ∀ base : Heap, (∀ p ∈ [(c_read_number, P_read_number), (c_is_word, P_is_word)], GxR.TabB base mg p.1 p.2) → Known (TabList.mk (List.map (·.2) [(c_read_number, P_read_number), (c_is_word, P_is_word)]) P w) P w K mg base 1 "_wish_steps" ["schema"] m__wish_steps := fun base ht => kn__wish_steps (PySem.W.mg_none_of X G y_dict) (PySem.W.mg_none_of X G y_enumerate) (PySem.W.mg_none_of X G y_len) (gdic_of X G g_EDIT_STEPS)  (d__wish_steps.dfn X G bo__wish_steps)
  have q_read_wish : ∀ base : Heap, (∀ p ∈ [(c_read_number, P_read_number), (c_is_word, P_is_word)], GxR.TabB base mg p.1 p.2) → Known (TabList.mk (List.map (·.2) [(c_read_number, P_read_number), (c_is_word, P_is_word)]) P w) P w K mg base 7 "read_wish" ["schema", "views", "text"] m_read_wish := fun base ht => kn_read_wish   (q__read_lines base ht) (q__wish_steps base ht) (d_read_wish.dfn X G bo_read_wish)
  have q_read_change : ∀ base : Heap, (∀ p ∈ [(c_read_number, P_read_number), (c_is_word, P_is_word)], GxR.TabB base mg p.1 p.2) → Known (TabList.mk (List.map (·.2) [(c_read_number, P_read_number), (c_is_word, P_is_word)]) P w) P w K mg base 7 "read_change" ["schema", "database", "text"] m_read_change := fun base ht => kn_read_change (PySem.W.mg_none_of X G y_dict) (gdic_of X G g_CHANGE_STEPS) (q__read_lines base ht) (d_read_change.dfn X G bo_read_change)
  have q__law_read : ∀ base : Heap, (∀ p ∈ [(c_read_number, P_read_number), (c_is_word, P_is_word)], GxR.TabB base mg p.1 p.2) → Known (TabList.mk (List.map (·.2) [(c_read_number, P_read_number), (c_is_word, P_is_word)]) P w) P w K mg base 8 "_law_read" ["kind", "names", "text"] m__law_read := fun base ht => kn__law_read   (q_read_change base ht) (q_read_schema base ht) (q_read_views base ht) (q_read_wish base ht) (d__law_read.dfn X G bo__law_read)
  have q__law_is_integer : ∀ base : Heap, (∀ p ∈ [(c_read_number, P_read_number), (c_is_word, P_is_word)], GxR.TabB base mg p.1 p.2) → Known (TabList.mk (List.map (·.2) [(c_read_number, P_read_number), (c_is_word, P_is_word)]) P w) P w K mg base 1 "_law_is_integer" ["actual"] m__law_is_integer := fun base ht => kn__law_is_integer (PySem.W.mg_none_of X G y_bool) (PySem.W.mg_none_of X G y_int) (PySem.W.mg_none_of X G y_isinstance)   (d__law_is_integer.dfn X G bo__law_is_integer)
  have h__law_is_integer : ∀ (base : Heap) (TS : TabList), KnownH TS P w K mg base 1 "_law_is_integer" ["actual"] m__law_is_integer := fun base TS => kh__law_is_integer (TS := TS) (PySem.W.mg_none_of X G y_bool) (PySem.W.mg_none_of X G y_int) (PySem.W.mg_none_of X G y_isinstance)   (d__law_is_integer.dfn X G bo__law_is_integer)
  have q__law_told : ∀ base : Heap, (∀ p ∈ [(c_read_number, P_read_number), (c_is_word, P_is_word)], GxR.TabB base mg p.1 p.2) → Known (TabList.mk (List.map (·.2) [(c_read_number, P_read_number), (c_is_word, P_is_word)]) P w) P w K mg base 9 "_law_told" ["kind", "names", "lines", "place"] m__law_told := fun base ht => kn__law_told (PySem.W.mg_none_of X G y_len)  (q__law_read base ht) (h__law_is_integer base) (xfT_cons X G xfq_0 (xfT_cons X G xfq_1 xfT_nil)) (ctT_one X G cq_BadText_BadText) (d__law_told.dfn X G bo__law_told)
  have q__fact_of : ∀ base : Heap, (∀ p ∈ [(c_read_number, P_read_number), (c_is_word, P_is_word)], GxR.TabB base mg p.1 p.2) → Known (TabList.mk (List.map (·.2) [(c_read_number, P_read_number), (c_is_word, P_is_word)]) P w) P w K mg base 1 "_fact_of" ["words"] m__fact_of := fun base ht => kn__fact_of (PySem.W.mg_none_of X G y_tuple)   (d__fact_of.dfn X G bo__fact_of)
  have q__facts_of : ∀ base : Heap, (∀ p ∈ [(c_read_number, P_read_number), (c_is_word, P_is_word)], GxR.TabB base mg p.1 p.2) → Known (TabList.mk (List.map (·.2) [(c_read_number, P_read_number), (c_is_word, P_is_word)]) P w) P w K mg base 7 "_facts_of" ["text"] m__facts_of := fun base ht => kn__facts_of (PySem.W.mg_none_of X G y_dict) (gdic_of X G g_FACTS_STEPS) (q__fact_of base ht) (q__read_lines base ht) (d__facts_of.dfn X G bo__facts_of)
  have q_read_facts : ∀ base : Heap, (∀ p ∈ [(c_read_number, P_read_number), (c_is_word, P_is_word)], GxR.TabB base mg p.1 p.2) → Known (TabList.mk (List.map (·.2) [(c_read_number, P_read_number), (c_is_word, P_is_word)]) P w) P w K mg base 8 "read_facts" ["schema", "text"] m_read_facts := fun base ht => kn_read_facts   (q__facts_of base ht) (d_read_facts.dfn X G bo_read_facts)
  have q__law_facts_told : ∀ base : Heap, (∀ p ∈ [(c_read_number, P_read_number), (c_is_word, P_is_word)], GxR.TabB base mg p.1 p.2) → Known (TabList.mk (List.map (·.2) [(c_read_number, P_read_number), (c_is_word, P_is_word)]) P w) P w K mg base 9 "_law_facts_told" ["names", "words"] m__law_facts_told := fun base ht => kn__law_facts_told (PySem.W.mg_none_of X G y_len)  (q_read_facts base ht) (xfT_cons X G xfq_0 (xfT_cons X G xfq_1 xfT_nil)) (ctT_one X G cq_BadText_BadText) (d__law_facts_told.dfn X G bo__law_facts_told)
  exact law_finG (k := 9) (cs := [(c_read_number, P_read_number), (c_is_word, P_is_word)]) X G hfa d_law bo_law (fun p hp => by simp only [List.mem_cons, List.not_mem_nil, or_false] at hp; rcases hp with rfl | rfl <;> first | exact tabs _ _ _ _ r_read_number t_read_number | exact tabs _ _ _ _ r_is_word t_is_word) (fun p hp => by simp only [List.mem_cons, List.not_mem_nil, or_false] at hp; rcases hp with rfl | rfl <;> first | exact n_read_number | exact n_is_word) sc_law ⟨rfl, by decide, by decide⟩ (fun base ht f cdv s H E hr => fk_law (base := base) (PySem.W.mg_none_of X G y_int)  (q__law_ahead base ht) (q__law_change_case base ht) (q__law_draws base ht) (q__law_facts_told base ht) (q__law_pool base ht) (q__law_schema_case base ht) (q__law_told base ht) (q__law_view_case base ht) (q__law_wish_case base ht) f cdv s H E hr) (fun ns h => by show Res.All _ (m_law [scriptD ns]); rw [law_true ns h]; exact rfl)
end K31
open PySem PySem.W PyProof.Rows
set_option maxHeartbeats 0 in
theorem PySem.Challenge.cw_wishshown_k31_words_wrong_at_their_place_holds : PySem.Challenge.rw_wishshown_k31_words_wrong_at_their_place.Holds := by
  w_on; o_law; k_head; (case hw => w_witness2)
  k_fill
  refine Pyr.law_endG (l := PySem.Challenge.rw_wishshown_k31_words_wrong_at_their_place) (x := "script") rfl rfl (fun w h Y => PySem.W.kIn_of Y) ?F
  case F =>
    intro w mg fa h KX G hmg tabs
    refine' K31.ends KX G hmg tabs ?vd0 ?vd1 ?vd2 ?vd3 ?vd4 ?vd5 ?vd6 ?vd7 ?vd8 ?vd9 ?vd10 ?vd11 ?vd12 ?vd13 ?vd14 ?vd15 ?vd16 ?vd17 ?vd18 ?vd19 ?vd20 ?vd21 ?vd22 ?vd23 ?vd24 ?vd25 ?vd26 ?vd27 ?vd28 ?vy0 ?vy1 ?vy2 ?vy3 ?vy4 ?vy5 ?vy6 ?vy7 ?vy8 ?vy9 ?vy10 ?vi0 ?vf0 ?vf1 ?vc0 ?vg0 ?vg1 ?vg2 ?vg3 ?vg4 ?vg5 ?vg6 ?vg7 ?vg8 ?vg9 ?vr0 ?vt0 ?vn0 ?vr1 ?vt1 ?vn1
    (case vd0 => exact ⟨_, _, _, _, _, _, _, _, _, _, by k_is, by k_is, by k_is, by k_is⟩)
    (case vd1 => exact ⟨_, _, _, _, _, _, _, _, _, _, by k_is, by k_is, by k_is, by k_is⟩)
    (case vd2 => exact ⟨_, _, _, _, _, _, _, _, _, _, by k_is, by k_is, by k_is, by k_is⟩)
    (case vd3 => exact ⟨_, _, _, _, _, _, _, _, _, _, by k_is, by k_is, by k_is, by k_is⟩)
    (case vd4 => exact ⟨_, _, _, _, _, _, _, _, _, _, by k_is, by k_is, by k_is, by k_is⟩)
    (case vd5 => exact ⟨_, _, _, _, _, _, _, _, _, _, by k_is, by k_is, by k_is, by k_is⟩)
    (case vd6 => exact ⟨_, _, _, _, _, _, _, _, _, _, by k_is, by k_is, by k_is, by k_is⟩)
    (case vd7 => exact ⟨_, _, _, _, _, _, _, _, _, by k_is, by k_is, by k_is, by k_is⟩)
    (case vd8 => exact ⟨_, _, _, _, _, _, _, _, _, _, by k_is, by k_is, by k_is, by k_is⟩)
    (case vd9 => exact ⟨_, _, _, _, _, _, _, _, _, _, by k_is, by k_is, by k_is, by k_is⟩)
    (case vd10 => exact ⟨_, _, _, _, _, _, _, _, _, _, by k_is, by k_is, by k_is, by k_is⟩)
    (case vd11 => exact ⟨_, _, _, _, _, _, _, _, _, by k_is, by k_is, by k_is, by k_is⟩)
    (case vd12 => exact ⟨_, _, _, _, _, _, _, _, _, _, by k_is, by k_is, by k_is, by k_is⟩)
    (case vd13 => exact ⟨_, _, _, _, _, _, _, _, _, _, by k_is, by k_is, by k_is, by k_is⟩)
    (case vd14 => exact ⟨_, _, _, _, _, _, _, _, _, _, by k_is, by k_is, by k_is, by k_is⟩)
    (case vd15 => exact ⟨_, _, _, _, _, _, _, _, _, _, by k_is, by k_is, by k_is, by k_is⟩)
    (case vd16 => exact ⟨_, _, _, _, _, _, _, _, _, _, by k_is, by k_is, by k_is, by k_is⟩)
    (case vd17 => exact ⟨_, _, _, _, _, _, _, _, _, _, by k_is, by k_is, by k_is, by k_is⟩)
    (case vd18 => exact ⟨_, _, _, _, _, _, _, _, _, _, by k_is, by k_is, by k_is, by k_is⟩)
    (case vd19 => exact ⟨_, _, _, _, _, _, _, _, _, _, by k_is, by k_is, by k_is, by k_is⟩)
    (case vd20 => exact ⟨_, _, _, _, _, _, _, _, _, _, by k_is, by k_is, by k_is, by k_is⟩)
    (case vd21 => exact ⟨_, _, _, _, _, _, _, _, _, _, by k_is, by k_is, by k_is, by k_is⟩)
    (case vd22 => exact ⟨_, _, _, _, _, _, _, _, _, _, by k_is, by k_is, by k_is, by k_is⟩)
    (case vd23 => exact ⟨_, _, _, _, _, _, _, _, _, _, by k_is, by k_is, by k_is, by k_is⟩)
    (case vd24 => exact ⟨_, _, _, _, _, _, _, _, _, _, by k_is, by k_is, by k_is, by k_is⟩)
    (case vd25 => exact ⟨_, _, _, _, _, _, _, _, _, _, by k_is, by k_is, by k_is, by k_is⟩)
    (case vd26 => exact ⟨_, _, _, _, _, _, _, _, _, _, by k_is, by k_is, by k_is, by k_is⟩)
    (case vd27 => exact ⟨_, _, _, _, _, _, _, _, _, _, by k_is, by k_is, by k_is, by k_is⟩)
    (case vd28 => exact ⟨_, _, _, _, _, _, _, _, _, _, by k_is, by k_is, by k_is, by k_is⟩)
    (case vy0 => k_is)
    (case vy1 => k_is)
    (case vy2 => k_is)
    (case vy3 => k_is)
    (case vy4 => k_is)
    (case vy5 => k_is)
    (case vy6 => k_is)
    (case vy7 => k_is)
    (case vy8 => k_is)
    (case vy9 => k_is)
    (case vy10 => k_is)
    (case vi0 => exact ⟨_, _, _, _, _, _, _, _, _, _, _, by k_is, ⟨⟨_, _, _, _, _, _, _, _, _, _, _, _, _, _, _, by k_is, rfl⟩, by k_is, by k_is, by k_is, by k_is⟩, by k_is, by k_is, by k_is, by k_is, by k_is, by k_is, by k_is, trivial⟩)
    (case vf0 => exact ⟨_, by k_is, ⟨by k_is, by k_is, by k_is, by k_is⟩, by k_is⟩)
    (case vf1 => exact ⟨_, by k_is, ⟨by k_is, by k_is, by k_is, by k_is⟩, by k_is⟩)
    (case vc0 => exact ⟨_, _, by k_is, by k_is, by k_is, by k_is, by k_is, by first | k_is | rfl⟩)
    (case vg0 => exact ⟨_, by k_is, ⟨⟨_, _, by k_is, (.cons (by first | rfl | kernel_rfl) (Pyr.rk_tup (by k_is) rfl rfl (by decide) (.cons (Pyr.rk_tup (by k_is) rfl rfl (by decide) (.cons Pyr.rk_str (.cons Pyr.rk_str .nil))) (.cons (Pyr.rk_tup (by k_is) rfl rfl (by decide) (.cons Pyr.rk_str (.cons Pyr.rk_str .nil))) .nil))) (.cons (by first | rfl | kernel_rfl) (Pyr.rk_tup (by k_is) rfl rfl (by decide) (.cons (Pyr.rk_tup (by k_is) rfl rfl (by decide) (.cons Pyr.rk_str (.cons Pyr.rk_str .nil))) .nil)) (.cons (by first | rfl | kernel_rfl) (Pyr.rk_tup (by k_is) rfl rfl (by decide) (.cons (Pyr.rk_tup (by k_is) rfl rfl (by decide) (.cons Pyr.rk_str (.cons Pyr.rk_str .nil))) .nil)) (.cons (by first | rfl | kernel_rfl) (Pyr.rk_tup (by k_is) rfl rfl (by decide) (.cons (Pyr.rk_tup (by k_is) rfl rfl (by decide) (.cons Pyr.rk_str (.cons Pyr.rk_str .nil))) (.cons (Pyr.rk_tup (by k_is) rfl rfl (by decide) (.cons Pyr.rk_str (.cons Pyr.rk_str .nil))) .nil))) (.cons (by first | rfl | kernel_rfl) (Pyr.rk_tup (by k_is) rfl rfl (by decide) (.cons (Pyr.rk_tup (by k_is) rfl rfl (by decide) (.cons Pyr.rk_str (.cons Pyr.rk_str .nil))) .nil)) (.cons (by first | rfl | kernel_rfl) (Pyr.rk_tup (by k_is) rfl rfl (by decide) (.cons (Pyr.rk_tup (by k_is) rfl rfl (by decide) (.cons Pyr.rk_str (.cons Pyr.rk_str .nil))) .nil)) (.cons (by first | rfl | kernel_rfl) (Pyr.rk_tup (by k_is) rfl rfl (by decide) (.cons (Pyr.rk_tup (by k_is) rfl rfl (by decide) (.cons Pyr.rk_str (.cons Pyr.rk_str .nil))) .nil)) (.cons (by first | rfl | kernel_rfl) (Pyr.rk_tup (by k_is) rfl rfl (by decide) (.cons (Pyr.rk_tup (by k_is) rfl rfl (by decide) (.cons Pyr.rk_str (.cons Pyr.rk_str .nil))) (.cons (Pyr.rk_tup (by k_is) rfl rfl (by decide) (.cons Pyr.rk_str (.cons Pyr.rk_str .nil))) .nil))) .nil))))))))⟩, by first | rfl | decide +kernel, by decide, by decide⟩⟩)
    (case vg1 => exact ⟨_, by k_is⟩)
    (case vg2 => exact ⟨_, by k_is, ⟨⟨_, _, by k_is, (.cons (by first | rfl | kernel_rfl) (Pyr.rk_tup (by k_is) rfl rfl (by decide) (.cons (Pyr.rk_tup (by k_is) rfl rfl (by decide) (.cons Pyr.rk_str (.cons Pyr.rk_str .nil))) (.cons (Pyr.rk_tup (by k_is) rfl rfl (by decide) (.cons Pyr.rk_str (.cons Pyr.rk_str .nil))) .nil))) (.cons (by first | rfl | kernel_rfl) (Pyr.rk_tup (by k_is) rfl rfl (by decide) (.cons (Pyr.rk_tup (by k_is) rfl rfl (by decide) (.cons Pyr.rk_str (.cons Pyr.rk_str .nil))) .nil)) (.cons (by first | rfl | kernel_rfl) (Pyr.rk_tup (by k_is) rfl rfl (by decide) (.cons (Pyr.rk_tup (by k_is) rfl rfl (by decide) (.cons Pyr.rk_str (.cons Pyr.rk_str .nil))) .nil)) (.cons (by first | rfl | kernel_rfl) (Pyr.rk_tup (by k_is) rfl rfl (by decide) (.cons (Pyr.rk_tup (by k_is) rfl rfl (by decide) (.cons Pyr.rk_str (.cons Pyr.rk_str .nil))) (.cons (Pyr.rk_tup (by k_is) rfl rfl (by decide) (.cons Pyr.rk_str (.cons Pyr.rk_str .nil))) .nil))) .nil))))⟩, by first | rfl | decide +kernel, by decide, by decide⟩⟩)
    (case vg3 => exact ⟨_, by k_is, ⟨⟨_, _, by k_is, (.cons (by first | rfl | kernel_rfl) (Pyr.rk_tup (by k_is) rfl rfl (by decide) (.cons (Pyr.rk_tup (by k_is) rfl rfl (by decide) (.cons Pyr.rk_str (.cons Pyr.rk_str .nil))) .nil)) (.cons (by first | rfl | kernel_rfl) (Pyr.rk_tup (by k_is) rfl rfl (by decide) (.cons (Pyr.rk_tup (by k_is) rfl rfl (by decide) (.cons Pyr.rk_str (.cons Pyr.rk_str .nil))) .nil)) (.cons (by first | rfl | kernel_rfl) (Pyr.rk_tup (by k_is) rfl rfl (by decide) (.cons (Pyr.rk_tup (by k_is) rfl rfl (by decide) (.cons Pyr.rk_str (.cons Pyr.rk_str .nil))) (.cons (Pyr.rk_tup (by k_is) rfl rfl (by decide) (.cons Pyr.rk_str (.cons Pyr.rk_str .nil))) .nil))) .nil)))⟩, by first | rfl | decide +kernel, by decide, by decide⟩⟩)
    (case vg4 => exact ⟨_, by k_is⟩)
    (case vg5 => exact ⟨_, by k_is⟩)
    (case vg6 => exact ⟨_, by k_is⟩)
    (case vg7 => exact ⟨_, by k_is, ⟨⟨_, _, by k_is, (.cons (by first | rfl | kernel_rfl) (Pyr.rk_tup (by k_is) rfl rfl (by decide) (.cons (Pyr.rk_tup (by k_is) rfl rfl (by decide) (.cons Pyr.rk_str (.cons Pyr.rk_str .nil))) .nil)) (.cons (by first | rfl | kernel_rfl) (Pyr.rk_tup (by k_is) rfl rfl (by decide) (.cons (Pyr.rk_tup (by k_is) rfl rfl (by decide) (.cons Pyr.rk_str (.cons Pyr.rk_str .nil))) .nil)) (.cons (by first | rfl | kernel_rfl) (Pyr.rk_tup (by k_is) rfl rfl (by decide) (.cons (Pyr.rk_tup (by k_is) rfl rfl (by decide) (.cons Pyr.rk_str (.cons Pyr.rk_str .nil))) .nil)) (.cons (by first | rfl | kernel_rfl) (Pyr.rk_tup (by k_is) rfl rfl (by decide) (.cons (Pyr.rk_tup (by k_is) rfl rfl (by decide) (.cons Pyr.rk_str (.cons Pyr.rk_str .nil))) (.cons (Pyr.rk_tup (by k_is) rfl rfl (by decide) (.cons Pyr.rk_str (.cons Pyr.rk_str .nil))) .nil))) (.cons (by first | rfl | kernel_rfl) (Pyr.rk_tup (by k_is) rfl rfl (by decide) (.cons (Pyr.rk_tup (by k_is) rfl rfl (by decide) (.cons Pyr.rk_str (.cons Pyr.rk_str .nil))) .nil)) (.cons (by first | rfl | kernel_rfl) (Pyr.rk_tup (by k_is) rfl rfl (by decide) (.cons (Pyr.rk_tup (by k_is) rfl rfl (by decide) (.cons Pyr.rk_str (.cons Pyr.rk_str .nil))) .nil)) .nil))))))⟩, by first | rfl | decide +kernel, by decide, by decide⟩⟩)
    (case vg8 => exact ⟨_, by k_is⟩)
    (case vg9 => exact ⟨_, by k_is, ⟨⟨_, _, by k_is, (.cons (by first | rfl | kernel_rfl) (Pyr.rk_tup (by k_is) rfl rfl (by decide) (.cons (Pyr.rk_tup (by k_is) rfl rfl (by decide) (.cons Pyr.rk_str (.cons Pyr.rk_str .nil))) .nil)) (.cons (by first | rfl | kernel_rfl) (Pyr.rk_tup (by k_is) rfl rfl (by decide) (.cons (Pyr.rk_tup (by k_is) rfl rfl (by decide) (.cons Pyr.rk_str (.cons Pyr.rk_str .nil))) (.cons (Pyr.rk_tup (by k_is) rfl rfl (by decide) (.cons Pyr.rk_str (.cons Pyr.rk_str .nil))) .nil))) (.cons (by first | rfl | kernel_rfl) (Pyr.rk_tup (by k_is) rfl rfl (by decide) (.cons (Pyr.rk_tup (by k_is) rfl rfl (by decide) (.cons Pyr.rk_str (.cons Pyr.rk_str .nil))) .nil)) (.cons (by first | rfl | kernel_rfl) (Pyr.rk_tup (by k_is) rfl rfl (by decide) (.cons (Pyr.rk_tup (by k_is) rfl rfl (by decide) (.cons Pyr.rk_str (.cons Pyr.rk_str .nil))) .nil)) (.cons (by first | rfl | kernel_rfl) (Pyr.rk_tup (by k_is) rfl rfl (by decide) (.cons (Pyr.rk_tup (by k_is) rfl rfl (by decide) (.cons Pyr.rk_str (.cons Pyr.rk_str .nil))) .nil)) (.cons (by first | rfl | kernel_rfl) (Pyr.rk_tup (by k_is) rfl rfl (by decide) (.cons (Pyr.rk_tup (by k_is) rfl rfl (by decide) (.cons Pyr.rk_str (.cons Pyr.rk_str .nil))) (.cons (Pyr.rk_tup (by k_is) rfl rfl (by decide) (.cons Pyr.rk_str (.cons Pyr.rk_str .nil))) .nil))) (.cons (by first | rfl | kernel_rfl) (Pyr.rk_tup (by k_is) rfl rfl (by decide) (.cons (Pyr.rk_tup (by k_is) rfl rfl (by decide) (.cons Pyr.rk_str (.cons Pyr.rk_str .nil))) .nil)) (.cons (by first | rfl | kernel_rfl) (Pyr.rk_tup (by k_is) rfl rfl (by decide) (.cons (Pyr.rk_tup (by k_is) rfl rfl (by decide) (.cons Pyr.rk_str (.cons Pyr.rk_str .nil))) .nil)) (.cons (by first | rfl | kernel_rfl) (Pyr.rk_tup (by k_is) rfl rfl (by decide) (.cons (Pyr.rk_tup (by k_is) rfl rfl (by decide) (.cons Pyr.rk_str (.cons Pyr.rk_str .nil))) (.cons (Pyr.rk_tup (by k_is) rfl rfl (by decide) (.cons Pyr.rk_str (.cons Pyr.rk_str .nil))) (.cons (Pyr.rk_tup (by k_is) rfl rfl (by decide) (.cons Pyr.rk_str (.cons Pyr.rk_str .nil))) (.cons (Pyr.rk_tup (by k_is) rfl rfl (by decide) (.cons Pyr.rk_str (.cons Pyr.rk_str .nil))) .nil))))) (.cons (by first | rfl | kernel_rfl) (Pyr.rk_tup (by k_is) rfl rfl (by decide) (.cons (Pyr.rk_tup (by k_is) rfl rfl (by decide) (.cons Pyr.rk_str (.cons Pyr.rk_str .nil))) .nil)) (.cons (by first | rfl | kernel_rfl) (Pyr.rk_tup (by k_is) rfl rfl (by decide) (.cons (Pyr.rk_tup (by k_is) rfl rfl (by decide) (.cons Pyr.rk_str (.cons Pyr.rk_str .nil))) (.cons (Pyr.rk_tup (by k_is) rfl rfl (by decide) (.cons Pyr.rk_str (.cons Pyr.rk_str .nil))) .nil))) (.cons (by first | rfl | kernel_rfl) (Pyr.rk_tup (by k_is) rfl rfl (by decide) (.cons (Pyr.rk_tup (by k_is) rfl rfl (by decide) (.cons Pyr.rk_str (.cons Pyr.rk_str .nil))) .nil)) (.cons (by first | rfl | kernel_rfl) (Pyr.rk_tup (by k_is) rfl rfl (by decide) (.cons (Pyr.rk_tup (by k_is) rfl rfl (by decide) (.cons Pyr.rk_str (.cons Pyr.rk_str .nil))) (.cons (Pyr.rk_tup (by k_is) rfl rfl (by decide) (.cons Pyr.rk_str (.cons Pyr.rk_str .nil))) .nil))) .nil)))))))))))))⟩, by first | rfl | decide +kernel, by decide, by decide⟩⟩)
    (case vr0 => rfl)
    (case vt0 => exact Pyr.tabIn_of (by k_is) (by k_is) rfl (by k_is) rfl)
    (case vn0 => first | rfl | kernel_rfl)
    (case vr1 => rfl)
    (case vt1 => exact Pyr.tabIn_of (by k_is) (by k_is) rfl (by k_is) rfl)
    (case vn1 => first | rfl | kernel_rfl)


