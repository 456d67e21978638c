import PyProof.Rows.All
import Wide.All
import OpenK.AllK
import Wide.FinOn
import HandS.ForMost
import HandS.Exc
import HandS.ExcOwn
import HandS.TryOnly
import HandS.WordsExc
import HandS.Evl
import HandS.Walk
import HandS.IsInst
import HandS.AnyAll
import HandS.Deep
import HandS.TupAny
import HandS.CallSlots
import HandS.GenList
import KE.KNest
import HandS.EndTab
import KE.SortData
import HandS.TupLe
import PyProof.ExcBaseAll.ValueError
import HandS.FStr
import PyProof.StrBlock2
import HandS.Style
import PyProof.Rows.TupMore
import KE.KUnpackStar
import HandS.Strs
import HandS.SetKeys
import PySem.Challenge.RW_wishshown_k42_fresh_words
set_option maxHeartbeats 4000000
set_option Elab.async false
set_option linter.all false
set_option maxRecDepth 100000
set_option maxHeartbeats 1000000
/-! A value semantics over the hand layer: expressions and statements as functions of data, with their soundness. -/
namespace Pyr
open PySem PySem.Spec PyProof.Rows L2 Evl

abbrev D := PyData

def keyD : Key → D
  | .inl i => .int i
  | .inr x => .str x

mutual
inductive Rp (K : PySem.W.Frag) (G : Hp) : V → D → Prop
  | non : Rp K G .non .none
  | bl (b : Bool) : Rp K G (.bl b) (.bool b)
  | int (i : Int) : Rp K G (.int i) (.int i)
  | str (x : Str) : Rp K G (.str x) (.str x)
  | lst {a : Addr} {xs : List V} {ds : List D} : SqL K G a xs → Rps K G xs ds → Rp K G (.ref a) (.list ds)
  | tup {a : Addr} {xs : List V} {ds : List D} : SqT K G a xs → Rps K G xs ds → Rp K G (.ref a) (.tuple ds)
  | dic {a : Addr} {kvs : List (Key × V)} {es : List (D × D)} : G a = some (.dK kvs) → RpKv K G kvs es → Rp K G (.ref a) (.dict es)
inductive Rps (K : PySem.W.Frag) (G : Hp) : List V → List D → Prop
  | nil : Rps K G [] []
  | cons {v : V} {vs : List V} {d : D} {ds : List D} : Rp K G v d → Rps K G vs ds → Rps K G (v :: vs) (d :: ds)
inductive RpKv (K : PySem.W.Frag) (G : Hp) : List (Key × V) → List (D × D) → Prop
  | nil : RpKv K G [] []
  | cons {k : Key} {v : V} {kvs : List (Key × V)} {d : D} {es : List (D × D)} : Rp K G v d → RpKv K G kvs es → RpKv K G ((k, v) :: kvs) ((keyD k, d) :: es)
end

section
variable {K : PySem.W.Frag} {G G' : Hp}
mutual
theorem Rp.mono (e : Ex G G') : ∀ {v : V} {d : D}, Rp K G v d → Rp K G' v d
  | _, _, .non => .non
  | _, _, .bl b => .bl b
  | _, _, .int i => .int i
  | _, _, .str x => .str x
  | _, _, .lst h r => .lst (ex_l e h) (Rps.mono e r)
  | _, _, .tup h r => .tup (ex_t e h) (Rps.mono e r)
  | _, _, .dic h r => .dic (e _ _ h) (RpKv.mono e r)
theorem Rps.mono (e : Ex G G') : ∀ {vs : List V} {ds : List D}, Rps K G vs ds → Rps K G' vs ds
  | _, _, .nil => .nil
  | _, _, .cons h r => .cons (Rp.mono e h) (Rps.mono e r)
theorem RpKv.mono (e : Ex G G') : ∀ {vs : List (Key × V)} {ds : List (D × D)}, RpKv K G vs ds → RpKv K G' vs ds
  | _, _, .nil => .nil
  | _, _, .cons h r => .cons (Rp.mono e h) (RpKv.mono e r)
end
theorem Rps.len : ∀ {vs : List V} {ds : List D}, Rps K G vs ds → vs.length = ds.length
  | _, _, .nil => rfl
  | _, _, .cons _ r => by rw [List.length_cons, List.length_cons, Rps.len r]
theorem Rps.app : ∀ {vs us : List V} {ds es : List D}, Rps K G vs ds → Rps K G us es → Rps K G (vs ++ us) (ds ++ es)
  | _, _, _, _, .nil, s => s
  | _, _, _, _, .cons h r, s => .cons h (Rps.app r s)
theorem Rps.at : ∀ {vs : List V} {ds : List D} {i : Nat} {d : D}, Rps K G vs ds → ds[i]? = some d → ∃ v, vs[i]? = some v ∧ Rp K G v d
  | _, _, _, _, .nil, h => by simp at h
  | _, _, 0, _, .cons h _, e => by
    simp at e
    subst e
    exact ⟨_, rfl, h⟩
  | _, _, i + 1, _, .cons _ r, e => by
    obtain ⟨v, h1, h2⟩ := Rps.at (i := i) r (by simpa using e)
    exact ⟨v, by simpa using h1, h2⟩
theorem Rps.cut : ∀ {vs : List V} {ds : List D} (n : Nat), Rps K G vs ds → Rps K G (vs.take n) (ds.take n)
  | _, _, 0, _ => .nil
  | _, _, _ + 1, .nil => .nil
  | _, _, n + 1, .cons h r => .cons h (Rps.cut n r)
theorem Rps.off : ∀ {vs : List V} {ds : List D} (n : Nat), Rps K G vs ds → Rps K G (vs.drop n) (ds.drop n)
  | _, _, 0, r => r
  | _, _, _ + 1, .nil => .nil
  | _, _, n + 1, .cons _ r => Rps.off n r
theorem Rps.put {v : V} {d : D} (h : Rp K G v d) : ∀ {vs : List V} {ds : List D} (i : Nat), Rps K G vs ds → Rps K G (vs.set i v) (ds.set i d)
  | _, _, _, .nil => .nil
  | _, _, 0, .cons _ r => .cons h r
  | _, _, i + 1, .cons q r => .cons q (Rps.put h i r)
end

/-! ### data without dicts, for the library's own words on data -/
mutual
def flatD : D → Bool
  | .list ds => flatsD ds
  | .tuple ds => flatsD ds
  | .dict _ => false
  | _ => true
def flatsD : List D → Bool
  | [] => true
  | d :: ds => flatD d && flatsD ds
end
section
variable {K : PySem.W.Frag} {G : Hp}
mutual
theorem Rp.dp : ∀ {v : V} {d : D}, Rp K G v d → flatD d = true → Dp K G v d
  | _, _, .non, _ => .non
  | _, _, .bl b, _ => .bl b
  | _, _, .int i, _ => .int i
  | _, _, .str x, _ => .str x
  | _, _, .lst h r, f => .lst h (Rps.dp r (by simpa [flatD] using f))
  | _, _, .tup h r, f => .tup h (Rps.dp r (by simpa [flatD] using f))
  | _, _, .dic _ _, f => by simp [flatD] at f
theorem Rps.dp : ∀ {vs : List V} {ds : List D}, Rps K G vs ds → flatsD ds = true → DpAll K G vs ds
  | _, _, .nil, _ => .nil
  | _, _, .cons h r, f => by
    rw [flatsD, Bool.and_eq_true] at f
    exact .cons (Rp.dp h f.1) (Rps.dp r f.2)
end
end

/-! ### results -/
inductive Res (α : Type) where
  | ok (a : α)
  | exc (c : Str) (fs : List (Str × D))
  | bad
def Res.bind {α β : Type} : Res α → (α → Res β) → Res β
  | .ok a, k => k a
  | .exc c fs, _ => .exc c fs
  | .bad, _ => .bad
def Res.map {α β : Type} (f : α → β) : Res α → Res β
  | .ok a => .ok (f a)
  | .exc c fs => .exc c fs
  | .bad => .bad

abbrev En := List (Option D)
/-- the tables of code objects, the program and its world -/
structure TabList where
  l : List Addr
  P : Program
  w : World
instance : Membership Addr TabList := ⟨fun T a => a ∈ T.l⟩
/-- the set of the texts xs at a, of some size that is not above their number -/
def SetT (P : Program) (w : World) (h : Heap) (a : Addr) (xs : List Str) : Prop := ∃ n, n ≤ xs.length ∧ h.SetOf (PySem.strKind P w) a (fun k => decide (k ∈ xs)) n
theorem setT_at {P : Program} {w : World} {h h' : Heap} {a : Addr} {xs : List Str} (z : SetT P w h a xs) (k : ∀ o, h.get? a = some o → h'.get? a = some o) : SetT P w h' a xs := by
  obtain ⟨n, hn, o, es, ep, t, ho, r⟩ := z
  exact ⟨n, hn, o, es, ep, t, k o ho, r⟩
/-- the set of the data ds at a -/
inductive SetD (P : Program) (w : World) (h : Heap) (a : Addr) : List D → Prop
  | txt (xs : List Str) : SetT P w h a xs → SetD P w h a (xs.map .str)
theorem SetD.at {P : Program} {w : World} {h h' : Heap} {a : Addr} {ds : List D} (z : SetD P w h a ds) (k : ∀ o, h.get? a = some o → h'.get? a = some o) : SetD P w h' a ds := by
  cases z with
  | txt xs t => exact .txt xs (setT_at t k)
def setO (P : Program) (w : World) (a : Addr) (ds : List D) : HO := .ext fun h => SetD P w h a ds

/-- the tables of code objects stand -/
def TbOk (TS : TabList) (H : Hp) : Prop := ∀ P ∈ TS, ∃ ps : Array Value, H P = some (.tbl ps) ∧ TriplesOk ps.toList
structure ExT (H H' : Hp) : Prop where
  same : ∀ a o, H a = some o → (∀ ps, o ≠ .tbl ps) → H' a = some o
  old : ∀ a, H' a = none → H a = none
theorem ExT.refl (H : Hp) : ExT H H := ⟨fun _ _ h _ => h, fun _ h => h⟩
theorem ExT.trans {H H1 H2 : Hp} (a : ExT H H1) (b : ExT H1 H2) : ExT H H2 := ⟨fun x o h n => b.same x o (a.same x o h n) n, fun x h => a.old x (b.old x h)⟩
theorem ExT.of {H H' : Hp} (e : Ex H H') : ExT H H' := ⟨fun a o h _ => e a o h, fun a h => fresh_back e h⟩
def isTb : HO → Bool
  | .tbl _ => true
  | _ => false
structure Ok0 (TS : TabList) (G H : Hp) : Prop where
  le : Ex G H
  tb : TbOk TS H
  nt : ∀ a o, G a = some o → isTb o = false
structure Gr (TS : TabList) (G H G' H' : Hp) : Prop where
  g : Ex G G'
  h : ExT H H'
  nw : ∀ a, G' a ≠ none → G a ≠ none ∨ H a = none
  ok : Ok0 TS G' H'
section
variable {TS : TabList} {G H G1 H1 G2 H2 : Hp} {p : Addr} {o : HO}
theorem Gr.refl (k : Ok0 TS G H) : Gr TS G H G H := ⟨Ex.refl G, ExT.refl H, fun _ h => .inl h, k⟩
theorem Gr.trans (a : Gr TS G H G1 H1) (b : Gr TS G1 H1 G2 H2) : Gr TS G H G2 H2 :=
  ⟨a.g.trans b.g, a.h.trans b.h, fun x h => (b.nw x h).elim (fun z => a.nw x z) fun z => .inr (a.h.old x z), b.ok⟩
theorem upd_none {b : Addr} (h : upd H p o b = none) : H b = none := by
  by_cases e : b = p
  · subst e
    rw [upd_same] at h
    cases h
  · rwa [upd_ne e] at h
theorem TbOk.new (k : TbOk TS H) (hp : H p = none) : TbOk TS (upd H p o) := fun P hP => by
  obtain ⟨ps, h1, h2⟩ := k P hP
  exact ⟨ps, by rw [upd_ne (ne_of_none h1 hp)]; exact h1, h2⟩
/-- a new object, not counted among the data -/
theorem Gr.own (k : Ok0 TS G H) (hp : H p = none) : Gr TS G H G (upd H p o) :=
  ⟨Ex.refl G, .of (Ex.new hp), fun _ h => .inl h, ⟨k.le.trans (Ex.new hp), k.tb.new hp, k.nt⟩⟩
/-- a new object, counted -/
theorem nt_upd (k : ∀ a o, G a = some o → isTb o = false) (ho : isTb o = false) : ∀ a u, upd G p o a = some u → isTb u = false := fun a u e => by
  by_cases q : a = p
  · subst q
    rw [upd_same] at e
    cases e
    exact ho
  · rw [upd_ne q] at e
    exact k a u e
theorem Gr.new (k : Ok0 TS G H) (hp : H p = none) (ho : isTb o = false := by rfl) : Gr TS G H (upd G p o) (upd H p o) := by
  have hg : G p = none := fresh_back k.le hp
  refine ⟨Ex.new hg, .of (Ex.new hp), fun a h => ?_, ⟨fun a u e => ?_, k.tb.new hp, nt_upd k.nt ho⟩⟩
  · by_cases e : a = p
    · subst e
      exact .inr hp
    · rw [upd_ne e] at h
      exact .inl h
  · by_cases q : a = p
    · subst q
      rw [upd_same] at e ⊢
      exact e
    · rw [upd_ne q] at e ⊢
      exact k.le _ _ e
/-- an own object counted from now on -/
theorem Gr.count (k : Ok0 TS G H) (g0 : G p = none) (hp : H p = some o) (ho : isTb o = false := by rfl) : Ex G (upd G p o) ∧ Ok0 TS (upd G p o) H :=
  ⟨Ex.new g0, fun a u e => by
    by_cases q : a = p
    · subst q
      rw [upd_same] at e
      cases e
      exact hp
    · rw [upd_ne q] at e
      exact k.le _ _ e, k.tb, nt_upd k.nt ho⟩
end

/-! ### what is wanted behind -/
def ExcRep (K : PySem.W.Frag) (G H : Hp) (d : Option Addr) : List (Str × D) → Prop
  | [] => d = none
  | fs => ∃ a vfs, d = some a ∧ H a = some (.xd vfs) ∧ vfs.map (·.1) = fs.map (·.1) ∧ Rps K G (vfs.map (·.2)) (fs.map (·.2))
def PostX (TS : TabList) (X : Cx) (W : WX) (σ : L2.St) (G H : Hp) (c : Str) (fs : List (Str × D)) : Prop :=
  ∀ (C : Addr) (d : Option Addr) (G' H' : Hp), X.mg c = some (.ref C) → Gr TS G H G' H' → ExcRep X.K G' H' d fs → W (.ref C) d σ H'
def PostG {β γ : Type} (Rel : Hp → Hp → Hp → γ → β → Prop) (TS : TabList) (X : Cx) (W : WX) (σ : L2.St) (G H : Hp) (r : Res β) (Q : γ → Hp → Prop) : Prop :=
  match r with
  | .ok b => ∀ v G' H', Gr TS G H G' H' → Rel H G' H' v b → Q v H'
  | .exc c fs => PostX TS X W σ G H c fs
  | .bad => False
/-- freshness may be told of an earlier heap -/
def Back {β γ : Type} (Rel : Hp → Hp → Hp → γ → β → Prop) : Prop := ∀ H H1 G' H' v b, (∀ a, H1 a = none → H a = none) → Rel H1 G' H' v b → Rel H G' H' v b
abbrev RelE (K : PySem.W.Frag) : Hp → Hp → Hp → V → D → Prop := fun _ G' _ v d => Rp K G' v d
abbrev RelA (K : PySem.W.Frag) : Hp → Hp → Hp → List V → List D → Prop := fun _ G' _ v d => Rps K G' v d
abbrev RelT : Hp → Hp → Hp → Bool → Bool → Prop := fun _ _ _ v b => v = b
abbrev RelL (K : PySem.W.Frag) : Hp → Hp → Hp → V → List D → Prop := fun H0 G' H' v ds => ∃ p vs, v = .ref p ∧ H0 p = none ∧ G' p = none ∧ H' p = some (.lst vs) ∧ Rps K G' vs ds
theorem back_E {K : PySem.W.Frag} : Back (RelE K) := fun _ _ _ _ _ _ _ h => h
theorem back_A {K : PySem.W.Frag} : Back (RelA K) := fun _ _ _ _ _ _ _ h => h
theorem back_T : Back RelT := fun _ _ _ _ _ _ _ h => h
theorem back_L {K : PySem.W.Frag} : Back (RelL K) := fun _ _ _ _ _ _ n ⟨p, vs, e, h, r⟩ => ⟨p, vs, e, n p h, r⟩

section
variable {TS : TabList} {X : Cx} {W : WX} {σ : L2.St} {G H G1 H1 : Hp} {α β γ δ : Type}
theorem PostX.shift {c : Str} {fs : List (Str × D)} (g : Gr TS G H G1 H1) (p : PostX TS X W σ G H c fs) : PostX TS X W σ G1 H1 c fs := fun C d G' H' m h r => p C d G' H' m (g.trans h) r
theorem PostG.shift {Rel : Hp → Hp → Hp → γ → β → Prop} (bk : Back Rel) {r : Res β} {Q : γ → Hp → Prop} (g : Gr TS G H G1 H1) (p : PostG Rel TS X W σ G H r Q) : PostG Rel TS X W σ G1 H1 r Q := by
  cases r with
  | ok b => exact fun v G' H' h r => p v G' H' (g.trans h) (bk _ _ _ _ _ _ g.h.old r)
  | exc c fs => exact PostX.shift g p
  | bad => exact p
theorem bindP {Ra : Hp → Hp → Hp → δ → α → Prop} {Rb : Hp → Hp → Hp → γ → β → Prop} (bk : Back Rb) {r : Res α} {k : α → Res β} {Q : γ → Hp → Prop} {R : δ → Hp → Prop} {wp : (δ → Hp → Prop) → Prop}
    (hr : ∀ Q', PostG Ra TS X W σ G H r Q' → wp Q') (post : PostG Rb TS X W σ G H (r.bind k) Q)
    (next : ∀ v x G1 H1, r = .ok x → Gr TS G H G1 H1 → Ra H G1 H1 v x → PostG Rb TS X W σ G1 H1 (k x) Q → R v H1) : wp R := by
  refine hr R ?_
  cases r with
  | ok x => exact fun v G1 H1 g rel => next v x G1 H1 rfl g rel (PostG.shift bk g post)
  | exc c fs => exact post
  | bad => exact post
end

/-! ### judgements -/
/-- an own list, read by its items: not data -/
abbrev loD (ds : List D) : D := .dict [(.none, .list ds)]
/-- a set in an own slot, by its members: not data -/
abbrev stD (ds : List D) : D := .dict [(.bool true, .list ds)]
def isLo : D → Bool
  | .dict [(.none, .list _)] => true
  | .dict [(.bool true, .list _)] => true
  | _ => false
theorem Rp.notLo {K : PySem.W.Frag} {G : Hp} {v : V} {d : D} (r : Rp K G v d) : isLo d = false := by
  cases r with
  | dic h e =>
    cases e with
    | nil => rfl
    | cons r e =>
      rename_i k _ _ _ _
      cases k <;> rfl
  | _ => rfl
structure RpE (TS : TabList) (K : PySem.W.Frag) (G H : Hp) (ρ : En) (σ : L2.St) : Prop where
  len : ρ.length ≤ σ.length
  at' : ∀ (i : Nat) (d : D), ρ[i]? = some (some d) → isLo d = false → ∃ v, σ[i]? = some (some v) ∧ Rp K G v d
  lo : ∀ (i : Nat) (ds : List D), ρ[i]? = some (some (loD ds)) → ∃ a vs, σ[i]? = some (some (.ref a)) ∧ H a = some (.lst vs) ∧ Rps K G vs ds
  st : ∀ (i : Nat) (ds : List D), ρ[i]? = some (some (stD ds)) → ∃ a, σ[i]? = some (some (.ref a)) ∧ H a = some (setO TS.P TS.w a ds)
theorem RpE.mono {TS : TabList} {K : PySem.W.Frag} {G G' H H' : Hp} {ρ : En} {σ : L2.St} (g : Gr TS G H G' H') (h : RpE TS K G H ρ σ) : RpE TS K G' H' ρ σ :=
  ⟨h.len, fun i d q z => let ⟨v, a, b⟩ := h.at' i d q z; ⟨v, a, b.mono g.g⟩, fun i ds q => let ⟨a, vs, h1, h2, h3⟩ := h.lo i ds q; ⟨a, vs, h1, g.h.same a _ h2 (fun ps e => by cases e), h3.mono g.g⟩, fun i ds q => let ⟨a, h1, h2⟩ := h.st i ds q; ⟨a, h1, g.h.same a _ h2 (fun ps e => by unfold setO at e; cases e)⟩⟩

def wpE (X : Cx) (e : Expr) : TE := fun σ H Q => ∀ (pins : List (Addr × Obj)) (s : Shared), Inv X pins σ H s → wpAny (model X.prog X.w) X.A (eval e X.env) (EP X pins σ Q) X.xe s
theorem pe_wp (X : Cx) (e : Expr) : PE X e (wpE X e) := ⟨fun pins s _ _ _ I h => h pins s I⟩
theorem wpE_of {X : Cx} {e : Expr} {t : TE} {σ : L2.St} {H : Hp} {Q : VK} (h : PE X e t) (q : t σ H Q) : wpE X e σ H Q := fun pins s I => h.run pins s σ H Q I q
def wpT (X : Cx) (e : Expr) : TT := fun σ H Q => ∀ (pins : List (Addr × Obj)) (s : Shared), Inv X pins σ H s → wpAny (model X.prog X.w) X.A (isTrue e X.env (eval e X.env)) (TP X pins σ Q) X.xe s
theorem pt_wp (X : Cx) (e : Expr) : PT X e (wpT X e) := ⟨fun pins s _ _ _ I h => h pins s I⟩
theorem wpT_of {X : Cx} {e : Expr} {t : TT} {σ : L2.St} {H : Hp} {Q : Bool → Hp → Prop} (h : PT X e t) (q : t σ H Q) : wpT X e σ H Q := fun pins s I => h.run pins s σ H Q I q
def wpA (X : Cx) (es : List Expr) : TA := fun σ H Q => ∀ (pos : Pos) (pins : List (Addr × Obj)) (s : Shared), Inv X pins σ H s → wpAny (model X.prog X.w) X.A (spliced (backTo pos (starEach es X.env))) (AP X pins σ Q) X.xe s
theorem pa_wp (X : Cx) (es : List Expr) : PA X es (wpA X es) := ⟨fun pos pins s _ _ _ I h => h pos pins s I⟩
theorem wpA_of {X : Cx} {es : List Expr} {t : TA} {σ : L2.St} {H : Hp} {Q : List V → Hp → Prop} (h : PA X es t) (q : t σ H Q) : wpA X es σ H Q := fun pos pins s I => h.run pos pins s σ H Q I q

structure DE (TS : TabList) (X : Cx) (e : Expr) (f : En → Res D) : Prop where
  run : ∀ (W : WX) (ρ : En) (σ : L2.St) (G H : Hp) (Q : VK), Takes X W → RpE TS X.K G H ρ σ → Ok0 TS G H → PostG (RelE X.K) TS X W σ G H (f ρ) Q → wpE X e σ H Q
instance {TS : TabList} {X : Cx} {e : Expr} {f : En → Res D} : CoeFun (DE TS X e f) fun _ => ∀ (W : WX) (ρ : En) (σ : L2.St) (G H : Hp) (Q : VK), Takes X W → RpE TS X.K G H ρ σ → Ok0 TS G H → PostG (RelE X.K) TS X W σ G H (f ρ) Q → wpE X e σ H Q := ⟨DE.run⟩
structure DL (TS : TabList) (X : Cx) (e : Expr) (f : En → Res (List D)) : Prop where
  run : ∀ (W : WX) (ρ : En) (σ : L2.St) (G H : Hp) (Q : VK), Takes X W → RpE TS X.K G H ρ σ → Ok0 TS G H → PostG (RelL X.K) TS X W σ G H (f ρ) Q → wpE X e σ H Q
instance {TS : TabList} {X : Cx} {e : Expr} {f : En → Res (List D)} : CoeFun (DL TS X e f) fun _ => ∀ (W : WX) (ρ : En) (σ : L2.St) (G H : Hp) (Q : VK), Takes X W → RpE TS X.K G H ρ σ → Ok0 TS G H → PostG (RelL X.K) TS X W σ G H (f ρ) Q → wpE X e σ H Q := ⟨DL.run⟩
structure DT (TS : TabList) (X : Cx) (e : Expr) (f : En → Res Bool) : Prop where
  run : ∀ (W : WX) (ρ : En) (σ : L2.St) (G H : Hp) (Q : Bool → Hp → Prop), Takes X W → RpE TS X.K G H ρ σ → Ok0 TS G H → PostG RelT TS X W σ G H (f ρ) Q → wpT X e σ H Q
instance {TS : TabList} {X : Cx} {e : Expr} {f : En → Res Bool} : CoeFun (DT TS X e f) fun _ => ∀ (W : WX) (ρ : En) (σ : L2.St) (G H : Hp) (Q : Bool → Hp → Prop), Takes X W → RpE TS X.K G H ρ σ → Ok0 TS G H → PostG RelT TS X W σ G H (f ρ) Q → wpT X e σ H Q := ⟨DT.run⟩
structure DA (TS : TabList) (X : Cx) (es : List Expr) (f : En → Res (List D)) : Prop where
  run : ∀ (W : WX) (ρ : En) (σ : L2.St) (G H : Hp) (Q : List V → Hp → Prop), Takes X W → RpE TS X.K G H ρ σ → Ok0 TS G H → PostG (RelA X.K) TS X W σ G H (f ρ) Q → wpA X es σ H Q
instance {TS : TabList} {X : Cx} {es : List Expr} {f : En → Res (List D)} : CoeFun (DA TS X es f) fun _ => ∀ (W : WX) (ρ : En) (σ : L2.St) (G H : Hp) (Q : List V → Hp → Prop), Takes X W → RpE TS X.K G H ρ σ → Ok0 TS G H → PostG (RelA X.K) TS X W σ G H (f ρ) Q → wpA X es σ H Q := ⟨DA.run⟩

/-- a new list as data -/
theorem DL.de {TS : TabList} {X : Cx} {e : Expr} {f : En → Res (List D)} (h : DL TS X e f) : DE TS X e (fun ρ => (f ρ).map .list) := by
  refine ⟨?_⟩
  intro W ρ σ G H Q tk re ok post
  refine h W ρ σ G H Q tk re ok ?_
  have post : PostG (RelE X.K) TS X W σ G H ((f ρ).map .list) Q := post
  cases hf : f ρ with
  | ok ds =>
    rw [hf] at post
    rintro v G' H' g ⟨p, vs, rfl, h0, g0, hp, r⟩
    obtain ⟨e1, e2⟩ := Gr.count g.ok g0 hp
    refine post _ _ H' ⟨g.g.trans e1, g.h, fun a q => ?_, e2⟩ (.lst (.inl (.inl upd_same)) (r.mono e1))
    by_cases z : a = p
    · subst z
      exact .inr h0
    · rw [upd_ne z] at q
      exact g.nw a q
  | exc c fs =>
    rw [hf] at post
    exact post
  | bad =>
    rw [hf] at post
    exact post
end Pyr

set_option Elab.async false
set_option linter.all false
set_option maxRecDepth 100000
set_option maxHeartbeats 1000000
namespace Pyr
open PySem PySem.Spec PyProof.Rows L2 Evl

structure CtE (X : Cx) : Prop where
  calm : X.calm = true
  nd : X.N.Nodup
  un : X.A.units + 65 < cLine

/-! ### data of small depth -/
mutual
def okD : Nat → D → Bool
  | _, .none => true
  | _, .bool _ => true
  | _, .int _ => true
  | _, .str x => PyData.strOk x
  | 0, .list _ => false
  | n + 1, .list ds => okDs n ds
  | 0, .tuple _ => false
  | n + 1, .tuple ds => okDs n ds
  | _, .dict _ => false
def okDs : Nat → List D → Bool
  | _, [] => true
  | n, d :: ds => okD n d && okDs n ds
end
mutual
theorem okD_flat : ∀ (d : D) (n : Nat), okD n d = true → flatD d = true ∧ d.canLay0 = true ∧ d.depth ≤ n
  | .none, n, _ => ⟨by simp [flatD], by simp [PyData.canLay0], by simp [PyData.depth]⟩
  | .bool _, n, _ => ⟨by simp [flatD], by simp [PyData.canLay0], by simp [PyData.depth]⟩
  | .int _, n, _ => ⟨by simp [flatD], by simp [PyData.canLay0], by simp [PyData.depth]⟩
  | .str _, n, h => ⟨by simp [flatD], by simpa [PyData.canLay0, okD] using h, by simp [PyData.depth]⟩
  | .list ds, 0, h => by simp [okD] at h
  | .list ds, n + 1, h => by
    obtain ⟨a, b, c⟩ := okDs_flat ds n (by simpa [okD] using h)
    refine ⟨by simpa [flatD] using a, by simpa [PyData.canLay0] using b, ?_⟩
    simp only [PyData.depth]
    omega
  | .tuple ds, 0, h => by simp [okD] at h
  | .tuple ds, n + 1, h => by
    obtain ⟨a, b, c⟩ := okDs_flat ds n (by simpa [okD] using h)
    refine ⟨by simpa [flatD] using a, by simpa [PyData.canLay0] using b, ?_⟩
    simp only [PyData.depth]
    omega
  | .dict _, n, h => by simp [okD] at h
theorem okDs_flat : ∀ (ds : List D) (n : Nat), okDs n ds = true → flatsD ds = true ∧ PyData.canLayAll0 ds = true ∧ PyData.depthAll ds ≤ n
  | [], n, _ => ⟨by simp [flatsD], by simp [PyData.canLayAll0], by simp [PyData.depthAll]⟩
  | d :: ds, n, h => by
    rw [okDs, Bool.and_eq_true] at h
    obtain ⟨a, b, c⟩ := okD_flat d n h.1
    obtain ⟨a', b', c'⟩ := okDs_flat ds n h.2
    refine ⟨by rw [flatsD, a, a']; rfl, by rw [PyData.canLayAll0, b, b']; rfl, ?_⟩
    simp only [PyData.depthAll]
    omega
end
abbrev okd (d : D) : Bool := okD 60 d
theorem okd_shaped {d : D} (h : okd d = true) : SeqAt.shaped d = true := by
  obtain ⟨_, b, c⟩ := okD_flat d 60 h
  show (d.canLay0 && decide (d.depth ≤ 64)) = true
  rw [b, decide_eq_true (by omega)]
  rfl
theorem Rp.okdp {K : PySem.W.Frag} {G : Hp} {v : V} {d : D} (r : Rp K G v d) (h : okd d = true) : Dp K G v d := r.dp (okD_flat d 60 h).1

/-! ### weakest words for the rules by values -/
section
variable {X : Cx}
def wpO (X : Cx) (f : Value → Value → Sem Value) : R2 := fun x y H Q => ∀ (pins : List (Addr × Obj)) (s : Shared) (σ : L2.St) (v u : Value), Inv X pins σ H s → RelV x v → RelV y u → wpAny (model X.prog X.w) X.A (f v u) (EP X pins σ Q) X.xe s
theorem opr_wp (f : Value → Value → Sem Value) : OpR X f (wpO X f) := fun pins s σ _ _ _ v u _ I rx ry h => h pins s σ v u I rx ry
theorem wpO_of {f : Value → Value → Sem Value} {r : R2} {x y : V} {H : Hp} {Q : VK} (h : OpR X f r) (q : r x y H Q) : wpO X f x y H Q := fun pins s σ v u I rx ry => h pins s σ H x y v u Q I rx ry q
def wpU (X : Cx) (f : Value → Sem Value) : V → Hp → VK → Prop := fun x H Q => ∀ (pins : List (Addr × Obj)) (s : Shared) (σ : L2.St) (v : Value), Inv X pins σ H s → RelV x v → wpAny (model X.prog X.w) X.A (f v) (EP X pins σ Q) X.xe s
theorem unr_wp (f : Value → Sem Value) : UnR X f (wpU X f) := fun pins s σ _ _ v _ I rx h => h pins s σ v I rx
theorem wpU_of {f : Value → Sem Value} {r : V → Hp → VK → Prop} {x : V} {H : Hp} {Q : VK} (h : UnR X f r) (q : r x H Q) : wpU X f x H Q := fun pins s σ v I rx => h pins s σ H x v Q I rx q
def wpC (X : Cx) (f : Value) : List V → Hp → VK → Prop := fun xs H Q => ∀ (pins : List (Addr × Obj)) (s : Shared) (σ : L2.St) (us : List Value), Inv X pins σ H s → Vals xs us → wpAny (model X.prog X.w) X.A (call f us) (EP X pins σ Q) X.xe s
theorem cr_wp (f : Value) : CallR X f (wpC X f) := fun pins s σ _ _ us _ I r h => h pins s σ us I r
theorem wpC_of {f : Value} {r : List V → Hp → VK → Prop} {xs : List V} {H : Hp} {Q : VK} (h : CallR X f r) (q : r xs H Q) : wpC X f xs H Q := fun pins s σ us I rx => h pins s σ H xs us Q I rx q
def wpI (X : Cx) : R2 := fun x y H Q => ∀ (value slice : Expr) (pins : List (Addr × Obj)) (s : Shared) (σ : L2.St) (v u : Value), Inv X pins σ H s → RelV x v → RelV y u → subscripted slice false v u = operate [v, u] (getItem v u) → wpAny (model X.prog X.w) X.A (subscriptTail value slice v u) (EP X pins σ Q) X.xe s
theorem ixr_wp : IxR X (wpI X) := fun value slice pins s σ _ _ _ v u _ I rx ry h hs => h value slice pins s σ v u I rx ry hs
theorem wpI_of {r : R2} {x y : V} {H : Hp} {Q : VK} (h : IxR X r) (q : r x y H Q) : wpI X x y H Q := fun value slice pins s σ v u I rx ry hs => h value slice pins s σ H x y v u Q I rx ry q hs
def wpS (X : Cx) : V → Option Int → Option Int → Hp → VK → Prop := fun x lo hi H Q => ∀ (pins : List (Addr × Obj)) (s : Shared) (σ : L2.St) (v vl vu : Value) (sl : Addr), Inv X pins σ H s → RelV x v → s.heap.IsSliceOf sl vl vu .none → IsPart vl lo → IsPart vu hi →
    ∃ T id, typeLookup (.type T) "__getitem__" = pure (some (.builtin id)) ∧ s.TypeIs v T ∧ wpAny (model X.prog X.w) X.A (getItem v (.ref sl)) (EP X pins σ Q) X.xe s
theorem slr_wp : SlR X (wpS X) := fun pins s σ _ _ v vl vu _ _ sl _ I rx hs pl pu h => h pins s σ v vl vu sl I rx hs pl pu
theorem wpS_of {r : V → Option Int → Option Int → Hp → VK → Prop} {x : V} {lo hi : Option Int} {H : Hp} {Q : VK} (h : SlR X r) (q : r x lo hi H Q) : wpS X x lo hi H Q := fun pins s σ v vl vu sl I rx hs pl pu => h pins s σ H x v vl vu lo hi sl Q I rx hs pl pu q
def wpM (X : Cx) (id : String) : V → List V → Hp → VK → Prop := fun x xs H Q => ∀ (pins : List (Addr × Obj)) (s : Shared) (σ : L2.St) (v : Value) (us : List Value), Inv X pins σ H s → RelV x v → Vals xs us → wpAny (model X.prog X.w) X.A (call (.builtin id) (v :: us)) (EP X pins σ Q) X.xe s
theorem mtr_wp (id : String) : MtR X id (wpM X id) := fun pins s σ _ _ _ v us _ I rx rs h => h pins s σ v us I rx rs
theorem wpM_of {id : String} {r : V → List V → Hp → VK → Prop} {x : V} {xs : List V} {H : Hp} {Q : VK} (h : MtR X id r) (q : r x xs H Q) : wpM X id x xs H Q := fun pins s σ v us I rx rs => h pins s σ H x xs v us Q I rx rs q
end

/-! ### the functions of expressions -/
def flat0 : D → Bool
  | .none => true
  | .bool _ => true
  | .int _ => true
  | .str _ => true
  | _ => false

def eVar (i : Nat) : En → Res D := fun ρ => match ρ[i]? with
  | some (some d) => if isLo d then .bad else .ok d
  | _ => .bad
def eC (d : D) : En → Res D := fun _ => .ok d
def e1 (g : D → Res D) (fa : En → Res D) : En → Res D := fun ρ => (fa ρ).bind g
def e2 (g : D → D → Res D) (fa fb : En → Res D) : En → Res D := fun ρ => (fa ρ).bind fun x => (fb ρ).bind fun y => g x y
def eN (g : List D → Res D) (fa : En → Res (List D)) : En → Res D := fun ρ => (fa ρ).bind g
def eIf (t : En → Res Bool) (fa fb : En → Res D) : En → Res D := fun ρ => (t ρ).bind fun b => if b then fa ρ else fb ρ
def a0 : En → Res (List D) := fun _ => .ok []
def aC (fa : En → Res D) (fr : En → Res (List D)) : En → Res (List D) := fun ρ => (fa ρ).bind fun x => (fr ρ).bind fun xs => .ok (x :: xs)
def tE (g : D → Res Bool) (fa : En → Res D) : En → Res Bool := fun ρ => (fa ρ).bind g
def tNotR (t : En → Res Bool) : En → Res Bool := fun ρ => (t ρ).bind fun b => .ok (!b)
def tAndR (t u : En → Res Bool) : En → Res Bool := fun ρ => (t ρ).bind fun b => if b then u ρ else .ok false
def tOrR (t u : En → Res Bool) : En → Res Bool := fun ρ => (t ρ).bind fun b => if b then .ok true else u ρ
def eB (t : En → Res Bool) : En → Res D := fun ρ => (t ρ).bind fun b => .ok (.bool b)
def boolD : D → Res Bool
  | .bool b => .ok b
  | _ => .bad
def LIM : Nat := 100000
def okL {α : Type} (n : Nat) (r : Res α) : Res α := if n ≤ LIM then r else .bad
def addD : D → D → Res D
  | .int i, .int j => .ok (.int (i + j))
  | .str x, .str y => okL (x.length + y.length) (.ok (.str (x ++ y)))
  | .list xs, .list ys => okL (xs.length + ys.length) (.ok (.list (xs ++ ys)))
  | _, _ => .bad
def subD : D → D → Res D
  | .int i, .int j => .ok (.int (i - j))
  | _, _ => .bad
def mulD : D → D → Res D
  | .int i, .int j => if (-(2 ^ 64) < i ∧ i < 2 ^ 64) ∨ (-(2 ^ 64) < j ∧ j < 2 ^ 64) then .ok (.int (i * j)) else .bad
  | _, _ => .bad
def fdivD : D → D → Res D
  | .int i, .int j => if j ≠ 0 ∧ j.natAbs < 1073741824 then .ok (.int (i.fdiv j)) else .bad
  | _, _ => .bad
def modD : D → D → Res D
  | .int i, .int j => if j ≠ 0 then .ok (.int (i.fmod j)) else .bad
  | _, _ => .bad
def powD : D → D → Res D
  | .int i, .int j => if 0 ≤ j ∧ j ≤ 1000000 ∧ i.natAbs < 2 ^ 64 then .ok (.int (i ^ j.toNat)) else .bad
  | _, _ => .bad
def negD : D → Res D
  | .int i => .ok (.int (-i))
  | _ => .bad
/-- two plain values -/
def scaD : D → D → Bool
  | .none, .none => true
  | .none, .int _ => true
  | .int _, .none => true
  | .none, .str _ => true
  | .str _, .none => true
  | .int _, .int _ => true
  | .bool _, .bool _ => true
  | .str _, .str _ => true
  | .int _, .str _ => true
  | .str _, .int _ => true
  | _, _ => false
def eqD (x y : D) : Res D := if scaD x y || (okd x && okd y) then .ok (.bool (PyData.eqv x y)) else .bad
def neD (x y : D) : Res D := if scaD x y || (okd x && okd y) then .ok (.bool (!PyData.eqv x y)) else .bad
def ltD : D → D → Res D
  | .int i, .int j => .ok (.bool (decide (i < j)))
  | .str x, .str y => .ok (.bool (decide (x.cps.toList < y.cps.toList)))
  | _, _ => .bad
def leD : D → D → Res D
  | .int i, .int j => .ok (.bool (decide (i ≤ j)))
  | .str x, .str y => .ok (.bool (!decide (y.cps.toList < x.cps.toList)))
  | _, _ => .bad
def gtD : D → D → Res D
  | .int i, .int j => .ok (.bool (decide (j < i)))
  | .str x, .str y => .ok (.bool (decide (y.cps.toList < x.cps.toList)))
  | _, _ => .bad
def geD : D → D → Res D
  | .int i, .int j => .ok (.bool (decide (j ≤ i)))
  | .str x, .str y => .ok (.bool (!decide (x.cps.toList < y.cps.toList)))
  | _, _ => .bad
def isNoneD : D → Bool
  | .none => true
  | _ => false
def isND (x _y : D) : Res D := .ok (.bool (isNoneD x))
def notND (x _y : D) : Res D := .ok (.bool (!isNoneD x))
def inD : D → D → Res D
  | .str x, .str y => if x.length = 1 then .ok (.bool (decide (x.cps.getD 0 0 ∈ y.cps.toList))) else .bad
  | x, .list ds => if okd x && okd (.list ds) then .ok (.bool (ds.any fun z => PyData.eqv z x)) else .bad
  | x, .tuple ds => if flat0 x && ds.all flat0 then .ok (.bool (ds.any fun z => PyData.eqv z x)) else .bad
  | _, _ => .bad
def notInD (x y : D) : Res D := (inD x y).bind fun b => match b with
  | .bool b => .ok (.bool (!b))
  | _ => .bad
def truD : D → Res Bool
  | .none => .ok false
  | .bool b => .ok b
  | .int i => .ok (i != 0)
  | .str x => okL x.length (.ok (x.length != 0))
  | .list ds => .ok (!ds.isEmpty)
  | .tuple ds => .ok (!ds.isEmpty)
  | _ => .bad
def atD : D → D → Res D
  | .list ds, .int i => match atI ds i with
    | some d => .ok d
    | none => .bad
  | .tuple ds, .int i => match atI ds i with
    | some d => .ok d
    | none => .bad
  | .str x, .int i => okL x.length (match atI x.cps.toList i with
    | some c => .ok (.str ⟨#[c]⟩)
    | none => .bad)
  | _, _ => .bad
def lenD : D → Res D
  | .list ds => .ok (.int ds.length)
  | .tuple ds => .ok (.int ds.length)
  | .str x => okL x.length (.ok (.int x.length))
  | _ => .bad
def intD : D → Res D
  | .int i => .ok (.int i)
  | .bool b => .ok (.int (if b then 1 else 0))
  | _ => .bad

/-! ### soundness -/
section
variable {TS : TabList} {X : Cx} {a b c : Expr} {fa fb fc : En → Res D} {t u : En → Res Bool} {es rest : List Expr} {fr : En → Res (List D)} {pos : Pos} {g : D → Res D} {g2 : D → D → Res D}

theorem PostG.eq {β γ : Type} {Rel : Hp → Hp → Hp → γ → β → Prop} {W : WX} {σ : L2.St} {G H : Hp} {r r' : Res β} {Q : γ → Hp → Prop} (p : PostG Rel TS X W σ G H r Q) (e : r = r') : PostG Rel TS X W σ G H r' Q := e ▸ p

theorem de_var (i : Nat) {x : Str} (hN : X.N[i]? = some x := by rfl) (hv : Vis X.env.scope x := by first | exact Or.inl rfl | exact Or.inr (Or.inl rfl) | exact Or.inr (Or.inr rfl)) (hd : (x == ("__debug__" : Str)) = false := by decide) (hcd : (x == ("__classdict__" : Str)) = false := by decide) :
    DE TS X (.Name x pos) (eVar i) := by
  refine ⟨?_⟩
  intro W ρ σ G H Q tk re ok post
  have post : PostG (RelE X.K) TS X W σ G H (eVar i ρ) Q := post
  unfold eVar at post
  refine wpE_of (pe_var hN hv hd hcd) ?_
  split at post
  · rename_i d hd
    split at post
    · exact post.elim
    · rename_i hl
      obtain ⟨v, h1, h2⟩ := re.at' i d hd (by simpa using hl)
      exact ⟨v, h1, post v G H (Gr.refl ok) h2⟩
  · exact post.elim
theorem de_c {d : D} {v : V} (h : PE X a (tC v)) (r : ∀ G, Rp X.K G v d) : DE TS X a (eC d) := by
  refine ⟨?_⟩
  intro W ρ σ G H Q tk re ok post
  exact wpE_of h (post v G H (Gr.refl ok) (r G))
theorem de_int {i : Int} {j : Nat} : DE TS X (.Constant (.int i) j pos) (eC (.int i)) := de_c pe_int fun _ => .int i
theorem de_str {x : Str} {j : Nat} : DE TS X (.Constant (.str x) j pos) (eC (.str x)) := de_c pe_str fun _ => .str x
theorem de_bl {k : Bool} {j : Nat} : DE TS X (.Constant (.bool k) j pos) (eC (.bool k)) := de_c pe_bl fun _ => .bl k
theorem de_non {j : Nat} : DE TS X (.Constant .none j pos) (eC .none) := de_c pe_non fun _ => .non
/-- a module's constant -/
theorem de_glob {x : Str} {d : D} {v : V} {w : Value} (hg : Gl X x) (hm : X.mg x = some w) (r : RelV v w) (rp : ∀ G, Rp X.K G v d) (hd : (x == ("__debug__" : Str)) = false := by decide) : DE TS X (.Name x pos) (eC d) := de_c (pe_glob hg hm r hd) rp

/-- what a two-place operation gives -/
structure OpD (TS : TabList) (X : Cx) (f : Value → Value → Sem Value) (g : D → D → Res D) : Prop where
  run : ∀ (W : WX) (σ : L2.St) (v u : V) (x y : D) (G H : Hp) (Q : VK), Ok0 TS G H → Rp X.K G v x → Rp X.K G u y → PostG (RelE X.K) TS X W σ G H (g x y) Q → wpO X f v u H Q
instance {TS : TabList} {X : Cx} {f : Value → Value → Sem Value} {g : D → D → Res D} : CoeFun (OpD TS X f g) fun _ => ∀ (W : WX) (σ : L2.St) (v u : V) (x y : D) (G H : Hp) (Q : VK), Ok0 TS G H → Rp X.K G v x → Rp X.K G u y → PostG (RelE X.K) TS X W σ G H (g x y) Q → wpO X f v u H Q := ⟨OpD.run⟩
theorem two {R : V → V → Hp → Prop} {W : WX} {ρ : En} {σ : L2.St} {G H : Hp} {Q : VK} (ha : DE TS X a fa) (hb : DE TS X b fb) (tk : Takes X W) (re : RpE TS X.K G H ρ σ) (ok : Ok0 TS G H) (post : PostG (RelE X.K) TS X W σ G H (e2 g2 fa fb ρ) Q)
    (next : ∀ v u x y G2 H2, Ok0 TS G2 H2 → Rp X.K G2 v x → Rp X.K G2 u y → PostG (RelE X.K) TS X W σ G2 H2 (g2 x y) Q → R v u H2) : wpE X a σ H fun v H1 => wpE X b σ H1 fun u H2 => R v u H2 := by
  refine bindP back_E (fun Q' h => ha W ρ σ G H Q' tk re ok h) post fun v x G1 H1 _ g1 rx post1 => ?_
  refine bindP back_E (fun Q' h => hb W ρ σ G1 H1 Q' tk (re.mono g1) g1.ok h) post1 fun u y G2 H2 _ g2' ry post2 => ?_
  exact next v u x y G2 H2 g2'.ok (rx.mono g2'.g) ry post2
theorem de_bin {op : Operator} (h : OpD TS X (binaryOp op) g2) (ha : DE TS X a fa) (hb : DE TS X b fb) : DE TS X (.BinOp a op b pos) (e2 g2 fa fb) := by
  refine ⟨?_⟩
  intro W ρ σ G H Q tk re ok post
  exact wpE_of (pe_op (opr_wp _) (pe_wp X a) (pe_wp X b)) (two ha hb tk re ok post fun v u x y G2 H2 ok2 rx ry p => h W σ v u x y G2 H2 Q ok2 rx ry p)
theorem de_cmp {op : CmpOp} (h : OpD TS X (compareOp op) g2) (ha : DE TS X a fa) (hb : DE TS X b fb) (hm : behindInMarks op b = false := by first | exact nomark _ | rfl) : DE TS X (.Compare a [op] [b] pos) (e2 g2 fa fb) := by
  refine ⟨?_⟩
  intro W ρ σ G H Q tk re ok post
  exact wpE_of (pe_cmpR (opr_wp _) (pe_wp X a) (pe_wp X b) hm) (two ha hb tk re ok post fun v u x y G2 H2 ok2 rx ry p => h W σ v u x y G2 H2 Q ok2 rx ry p)
/-- a comparison as a test: its value is a bool -/
theorem dt_cmp {op : CmpOp} (h : OpD TS X (compareOp op) g2) (ha : DE TS X a fa) (hb : DE TS X b fb) (hm : behindInMarks op b = false := by first | exact nomark _ | rfl) : DT TS X (.Compare a [op] [b] pos) (tE boolD (e2 g2 fa fb)) := by
  refine ⟨?_⟩
  intro W ρ σ G H Q tk re ok post
  refine wpT_of (pt_cmpR (opr_wp _) (pe_wp X a) (pe_wp X b) hm) ?_
  refine bindP (Ra := RelE X.K) (wp := fun R => wpE X a σ H fun v H1 => wpE X b σ H1 fun u H2 => wpO X (compareOp op) v u H2 R) back_T (fun Q' p => two ha hb tk re ok p fun v u x y G2 H2 ok2 rx ry p => h W σ v u x y G2 H2 Q' ok2 rx ry p) post fun v x G1 H1 _ g1 rx post1 => ?_
  cases rx with
  | bl k => exact ⟨k, rfl, post1 k G1 H1 (Gr.refl g1.ok) rfl⟩
  | _ => exact post1.elim
theorem okL_post {β γ : Type} {Rel : Hp → Hp → Hp → γ → β → Prop} {W : WX} {σ : L2.St} {G H : Hp} {n : Nat} {r : Res β} {Q : γ → Hp → Prop} (p : PostG Rel TS X W σ G H (okL n r) Q) : n ≤ LIM ∧ PostG Rel TS X W σ G H r Q := by
  unfold okL at p
  split at p
  · exact ⟨by assumption, p⟩
  · exact p.elim
theorem lim_line {n : Nat} (h : n ≤ LIM) : n ≤ sizeLine := Nat.le_trans h (by decide)
end
end Pyr

set_option Elab.async false
set_option linter.all false
set_option maxRecDepth 100000
set_option maxHeartbeats 1000000
namespace Pyr
open PySem PySem.Spec PyProof.Rows L2 Evl
section
variable {TS : TabList} {X : Cx} {a b c : Expr} {fa fb fc : En → Res D} {t u : En → Res Bool} {es rest : List Expr} {fr : En → Res (List D)} {pos : Pos} {g : D → Res D} {g2 : D → D → Res D}

theorem fin1 {W : WX} {σ : L2.St} {G H : Hp} {Q : VK} {d : D} {v : V} (ok : Ok0 TS G H) (p : PostG (RelE X.K) TS X W σ G H (.ok d) Q) (r : Rp X.K G v d) : Q v H := p v G H (Gr.refl ok) r

/-- list + list, lists of any kind -/
def rCatG (K : PySem.W.Frag) : R2 := fun x y H Q => ∃ l b xs zs, x = .ref l ∧ y = .ref b ∧ SqL K H l xs ∧ SqL K H b zs ∧ xs.length + zs.length ≤ sizeLine ∧ ∀ p, H p = none → Q (.ref p) (upd H p (.lst (xs ++ zs)))
theorem op_catG : OpR X (binaryOp .Add) (rCatG X.K) := by
  intro pins s σ H x y v u Q I rx ry h
  obtain ⟨l, b, xs, zs, rfl, rfl, hl, hb, hz, q⟩ := h
  cases rx
  cases ry
  obtain ⟨is1, r1, p1, _⟩ := I.list hl
  obtain ⟨is2, r2, p2, _⟩ := I.list hb
  have l1 := r1.length
  have l2 := r2.length
  obtain ⟨⟨c1, d1, t1, s1⟩, n1, ho1, hc1, hd1, ht1⟩ := p1
  obtain ⟨⟨c2, d2, t2, s2⟩, n2, ho2, hc2, hd2, ht2⟩ := p2
  simp only at hc1 hd1 ht1 hc2 hd2 ht2
  subst hc1 hd1 ht1 hc2 hd2 ht2
  refine concat_meets ⟨_, ho1, rfl⟩ ⟨_, ho2, rfl⟩ noFill_list_add seq_list_add PySem.F.slot_list_add PySem.F.entry_list_add (PySem.F.args_list_add_2 _ _) (list_addW l b is1.toArray is2.toArray n1 n2 none none s1 s2 (by simp only [List.size_toArray]; omega)) ⟨ho1, ho2, ?_⟩
  have ea : is1.toArray ++ is2.toArray = (is1 ++ is2).toArray := by simp
  rw [ea]
  exact ⟨.ref _, _, I.lnew (t' := s.toks) (r1.append r2) (by rw [List.length_append]; omega), rfl, q _ I.fresh⟩
theorem Rp.list_inv {K : PySem.W.Frag} {G : Hp} {v : V} {ds : List D} (r : Rp K G v (.list ds)) : ∃ a xs, v = .ref a ∧ SqL K G a xs ∧ Rps K G xs ds := by
  cases r with
  | lst h r => exact ⟨_, _, rfl, h, r⟩
theorem od_add : OpD TS X (binaryOp .Add) addD := by
  refine ⟨?_⟩
  intro W σ v u x y G H Q ok rx ry p
  unfold addD at p
  split at p
  · cases rx
    cases ry
    exact wpO_of op_add ⟨_, _, rfl, rfl, fin1 ok p (.int _)⟩
  · cases rx
    cases ry
    obtain ⟨h, p⟩ := okL_post p
    exact wpO_of op_add_str ⟨_, _, rfl, rfl, lim_line h, fin1 ok p (.str _)⟩
  · obtain ⟨h, p⟩ := okL_post p
    obtain ⟨l, as, rfl, hl, r1⟩ := rx.list_inv
    obtain ⟨b, bs, rfl, hb, r2⟩ := ry.list_inv
    refine wpO_of op_catG ⟨l, b, as, bs, rfl, rfl, ex_l ok.le hl, ex_l ok.le hb, lim_line (by rw [r1.len, r2.len]; exact h), fun q hq => ?_⟩
    have g := Gr.new (o := .lst (as ++ bs)) ok hq
    exact p _ _ _ g (.lst (.inl (.inl upd_same)) ((r1.app r2).mono g.g))
  · exact p.elim
theorem od_sub : OpD TS X (binaryOp .Sub) subD := by
  refine ⟨?_⟩
  intro W σ v u x y G H Q ok rx ry p
  unfold subD at p
  split at p
  · cases rx
    cases ry
    exact wpO_of op_sub ⟨_, _, rfl, rfl, fin1 ok p (.int _)⟩
  · exact p.elim
theorem od_mul : OpD TS X (binaryOp .Mult) mulD := by
  refine ⟨?_⟩
  intro W σ v u x y G H Q ok rx ry p
  unfold mulD at p
  split at p
  · cases rx
    cases ry
    split at p
    · rename_i h
      exact wpO_of op_mul ⟨_, _, rfl, rfl, h, fin1 ok p (.int _)⟩
    · exact p.elim
  · exact p.elim
theorem od_fdiv : OpD TS X (binaryOp .FloorDiv) fdivD := by
  refine ⟨?_⟩
  intro W σ v u x y G H Q ok rx ry p
  unfold fdivD at p
  split at p
  · cases rx
    cases ry
    split at p
    · rename_i h
      exact wpO_of op_fdivN ⟨_, _, rfl, rfl, h, fin1 ok p (.int _)⟩
    · exact p.elim
  · exact p.elim
theorem od_mod : OpD TS X (binaryOp .Mod) modD := by
  refine ⟨?_⟩
  intro W σ v u x y G H Q ok rx ry p
  unfold modD at p
  split at p
  · cases rx
    cases ry
    split at p
    · rename_i h
      exact wpO_of op_modN ⟨_, _, rfl, rfl, h, fin1 ok p (.int _)⟩
    · exact p.elim
  · exact p.elim
theorem od_pow : OpD TS X (binaryOp .Pow) powD := by
  refine ⟨?_⟩
  intro W σ v u x y G H Q ok rx ry p
  unfold powD at p
  split at p
  · cases rx
    cases ry
    split at p
    · rename_i h
      exact wpO_of op_pow ⟨_, _, rfl, rfl, h, fin1 ok p (.int _)⟩
    · exact p.elim
  · exact p.elim
theorem de_neg (ha : DE TS X a fa) : DE TS X (.UnaryOp .USub a pos) (e1 negD fa) := by
  refine ⟨?_⟩
  intro W ρ σ G H Q tk re ok post
  refine wpE_of (pe_un un_neg (pe_wp X a)) ?_
  refine bindP (wp := fun R => wpE X a σ H R) back_E (fun Q' p => ha W ρ σ G H Q' tk re ok p) post fun v x G1 H1 _ g1 rx p => ?_
  unfold negD at p
  split at p
  · cases rx
    exact ⟨_, rfl, fin1 g1.ok p (.int _)⟩
  · exact p.elim
theorem eq_eqv {K : PySem.W.Frag} {G : Hp} {v u : V} {x y : D} (rx : Rp K G v x) (ry : Rp K G u y) (h : scaD x y = true) : scal v u = true ∧ decide (v = u) = PyData.eqv x y := by
  cases rx <;> cases ry <;> simp [scaD] at h <;> refine ⟨rfl, ?_⟩ <;> simp only [PyData.eqv] <;> rw [Bool.eq_iff_iff] <;> simp
theorem od_eq (C : CtE X) : OpD TS X (compareOp .Eq) eqD := by
  refine ⟨?_⟩
  intro W σ v u x y G H Q ok rx ry p
  unfold eqD at p
  split at p
  · rename_i h
    by_cases hs : scaD x y = true
    · obtain ⟨h1, h2⟩ := eq_eqv rx ry hs
      exact wpO_of op_eq ⟨h1, by rw [h2]; exact fin1 ok p (.bl _)⟩
    · rw [Bool.or_eq_true, Bool.and_eq_true] at h
      obtain ⟨hx, hy⟩ := h.resolve_left hs
      exact wpO_of (op_eqD (by have := C.un; omega)) ⟨x, y, (rx.mono ok.le).okdp hx, (ry.mono ok.le).okdp hy, okd_shaped hx, okd_shaped hy, fin1 ok p (.bl _)⟩
  · exact p.elim
theorem od_ne (C : CtE X) : OpD TS X (compareOp .NotEq) neD := by
  refine ⟨?_⟩
  intro W σ v u x y G H Q ok rx ry p
  unfold neD at p
  split at p
  · rename_i h
    by_cases hs : scaD x y = true
    · obtain ⟨h1, h2⟩ := eq_eqv rx ry hs
      exact wpO_of op_ne ⟨h1, by rw [h2]; exact fin1 ok p (.bl _)⟩
    · rw [Bool.or_eq_true, Bool.and_eq_true] at h
      obtain ⟨hx, hy⟩ := h.resolve_left hs
      exact wpO_of (op_neD (by have := C.un; omega)) ⟨x, y, (rx.mono ok.le).okdp hx, (ry.mono ok.le).okdp hy, okd_shaped hx, okd_shaped hy, fin1 ok p (.bl _)⟩
  · exact p.elim
theorem od_lt : OpD TS X (compareOp .Lt) ltD := by
  refine ⟨?_⟩
  intro W σ v u x y G H Q ok rx ry p
  unfold ltD at p
  split at p
  · cases rx
    cases ry
    exact wpO_of op_lt ⟨_, _, rfl, rfl, fin1 ok p (.bl _)⟩
  · cases rx
    cases ry
    exact wpO_of op_lt_str ⟨_, _, rfl, rfl, fin1 ok p (.bl _)⟩
  · exact p.elim
theorem od_le : OpD TS X (compareOp .LtE) leD := by
  refine ⟨?_⟩
  intro W σ v u x y G H Q ok rx ry p
  unfold leD at p
  split at p
  · cases rx
    cases ry
    exact wpO_of op_le ⟨_, _, rfl, rfl, fin1 ok p (.bl _)⟩
  · cases rx
    cases ry
    exact wpO_of op_le_str ⟨_, _, rfl, rfl, fin1 ok p (.bl _)⟩
  · exact p.elim
theorem od_gt : OpD TS X (compareOp .Gt) gtD := by
  refine ⟨?_⟩
  intro W σ v u x y G H Q ok rx ry p
  unfold gtD at p
  split at p
  · cases rx
    cases ry
    exact wpO_of op_gt ⟨_, _, rfl, rfl, fin1 ok p (.bl _)⟩
  · cases rx
    cases ry
    exact wpO_of op_gt_str ⟨_, _, rfl, rfl, fin1 ok p (.bl _)⟩
  · exact p.elim
theorem od_ge : OpD TS X (compareOp .GtE) geD := by
  refine ⟨?_⟩
  intro W σ v u x y G H Q ok rx ry p
  unfold geD at p
  split at p
  · cases rx
    cases ry
    exact wpO_of op_ge ⟨_, _, rfl, rfl, fin1 ok p (.bl _)⟩
  · cases rx
    cases ry
    exact wpO_of op_ge_str ⟨_, _, rfl, rfl, fin1 ok p (.bl _)⟩
  · exact p.elim
theorem none_iff {K : PySem.W.Frag} {G : Hp} {v : V} {x : D} (r : Rp K G v x) : decide (v = .non) = isNoneD x := by
  cases r <;> rfl

theorem od_isN : OpD TS X (compareOp .Is) (fun x y => match y with | .none => isND x y | _ => .bad) := by
  refine ⟨?_⟩
  intro W σ v u x y G H Q ok rx ry p
  cases ry <;> first | exact p.elim | skip
  exact wpO_of op_isN ⟨rfl, by rw [none_iff rx]; exact fin1 ok p (.bl _)⟩
theorem od_notN : OpD TS X (compareOp .IsNot) (fun x y => match y with | .none => notND x y | _ => .bad) := by
  refine ⟨?_⟩
  intro W σ v u x y G H Q ok rx ry p
  cases ry <;> first | exact p.elim | skip
  exact wpO_of op_notN ⟨rfl, by rw [none_iff rx]; exact fin1 ok p (.bl _)⟩
theorem Rp.tup_inv {K : PySem.W.Frag} {G : Hp} {v : V} {ds : List D} (r : Rp K G v (.tuple ds)) : ∃ a xs, v = .ref a ∧ SqT K G a xs ∧ Rps K G xs ds := by
  cases r with
  | tup h r => exact ⟨_, _, rfl, h, r⟩
theorem eN_post {W : WX} {σ : L2.St} {G H : Hp} {R : Res D} {Q : VK} (p : PostG (RelE X.K) TS X W σ G H R Q) {c : Prop} {d : D} (e : R = .ok d) : PostG (RelE X.K) TS X W σ G H (.ok d) Q := by
  rw [← e]
  exact p

/-! #### tests -/
theorem dt_tru (ha : DE TS X a fa) (he : ∀ whole, isTrue a X.env whole = (do let v ← whole; standAt a.pos; holding [v] (truthy v)) := by intro _; rfl) : DT TS X a (tE truD fa) := by
  refine ⟨?_⟩
  intro W ρ σ G H Q tk re ok post
  refine wpT_of (pt_truth (pe_wp X a) he) ?_
  refine bindP (wp := fun R => wpE X a σ H R) back_T (fun Q' p => ha W ρ σ G H Q' tk re ok p) post fun v x G1 H1 _ g1 rx p => ?_
  have fin : ∀ {k : Bool}, PostG RelT TS X W σ G1 H1 (.ok k) Q → Q k H1 := fun {k} p => p k G1 H1 (Gr.refl g1.ok) rfl
  unfold truD at p
  split at p
  · cases rx
    exact ⟨_, rfl, fin p⟩
  · cases rx
    exact ⟨_, rfl, fin p⟩
  · cases rx
    exact ⟨_, rfl, fin p⟩
  · cases rx
    obtain ⟨h, p⟩ := okL_post p
    refine ⟨_, ⟨lim_line h, rfl⟩, ?_⟩
    have e : ∀ n : Nat, ((n : Int) != 0) = (n != 0) := fun n => by
      rw [Bool.eq_iff_iff]
      simp
    rw [e]
    exact fin p
  · obtain ⟨a, xs, rfl, h, r⟩ := rx.list_inv
    refine ⟨_, .inl ⟨xs, ex_l g1.ok.le h, rfl⟩, ?_⟩
    have e : xs.isEmpty = (List.isEmpty (by assumption : List D)) := by
      cases r <;> rfl
    rw [e]
    exact fin p
  · obtain ⟨a, xs, rfl, h, r⟩ := rx.tup_inv
    refine ⟨_, .inr (.inl ⟨xs, ex_t g1.ok.le h, rfl⟩), ?_⟩
    have e : xs.isEmpty = (List.isEmpty (by assumption : List D)) := by
      cases r <;> rfl
    rw [e]
    exact fin p
  · exact p.elim
theorem dt_not (ht : DT TS X a t) : DT TS X (.UnaryOp .Not a pos) (tNotR t) := by
  refine ⟨?_⟩
  intro W ρ σ G H Q tk re ok post
  refine wpT_of (pt_not (pt_wp X a)) ?_
  exact bindP (wp := fun R => wpT X a σ H R) back_T (fun Q' p => ht W ρ σ G H Q' tk re ok p) post fun v x G1 H1 _ g1 rx p => by
    subst rx
    exact p _ G1 H1 (Gr.refl g1.ok) rfl
def wpW (X : Cx) (e : Expr) : TT := fun σ H Q => ∀ (whole : Sem Value) (pins : List (Addr × Obj)) (s : Shared), Inv X pins σ H s → wpAny (model X.prog X.w) X.A (isTrue e X.env whole) (TP X pins σ Q) X.xe s
theorem pw_wp (X : Cx) (e : Expr) : PW X e (wpW X e) := ⟨fun whole pins s _ _ _ I h => h whole pins s I⟩
theorem wpW_of {e : Expr} {t : TT} {σ : L2.St} {H : Hp} {Q : Bool → Hp → Prop} (h : PW X e t) (q : t σ H Q) : wpW X e σ H Q := fun whole pins s I => h.run whole pins s σ H Q I q
structure DW (TS : TabList) (X : Cx) (e : Expr) (f : En → Res Bool) : Prop where
  run : ∀ (W : WX) (ρ : En) (σ : L2.St) (G H : Hp) (Q : Bool → Hp → Prop), Takes X W → RpE TS X.K G H ρ σ → Ok0 TS G H → PostG RelT TS X W σ G H (f ρ) Q → wpW X e σ H Q
instance {TS : TabList} {X : Cx} {e : Expr} {f : En → Res Bool} : CoeFun (DW TS X e f) fun _ => ∀ (W : WX) (ρ : En) (σ : L2.St) (G H : Hp) (Q : Bool → Hp → Prop), Takes X W → RpE TS X.K G H ρ σ → Ok0 TS G H → PostG RelT TS X W σ G H (f ρ) Q → wpW X e σ H Q := ⟨DW.run⟩
theorem DW.dt (h : DW TS X a t) : DT TS X a t := .mk fun W ρ σ G H Q tk re ok post => wpT_of (PW.pt (pw_wp X a)) (h W ρ σ G H Q tk re ok post)
theorem dw_and1 (h : DT TS X a t) : DW TS X (.BoolOp .And [a] pos) t := .mk fun W ρ σ G H Q tk re ok post => wpW_of (pw_and1 (pt_wp X a)) (h W ρ σ G H Q tk re ok post)
theorem dw_or1 (h : DT TS X a t) : DW TS X (.BoolOp .Or [a] pos) t := .mk fun W ρ σ G H Q tk re ok post => wpW_of (pw_or1 (pt_wp X a)) (h W ρ σ G H Q tk re ok post)
theorem dw_and (h : DT TS X a t) (h2 : DW TS X (.BoolOp .And (b :: rest) pos) u) : DW TS X (.BoolOp .And (a :: b :: rest) pos) (tAndR t u) := by
  refine ⟨?_⟩
  intro W ρ σ G H Q tk re ok post
  refine wpW_of (pw_and (pt_wp X a) (pw_wp X _)) ?_
  refine bindP (wp := fun R => wpT X a σ H R) back_T (fun Q' p => h W ρ σ G H Q' tk re ok p) post fun v x G1 H1 _ g1 rx p => ?_
  subst rx
  cases v with
  | true => exact iteT (h2 W ρ σ G1 H1 Q tk (re.mono g1) g1.ok p)
  | false => exact iteF (p _ G1 H1 (Gr.refl g1.ok) rfl)
theorem dw_or (h : DT TS X a t) (h2 : DW TS X (.BoolOp .Or (b :: rest) pos) u) : DW TS X (.BoolOp .Or (a :: b :: rest) pos) (tOrR t u) := by
  refine ⟨?_⟩
  intro W ρ σ G H Q tk re ok post
  refine wpW_of (pw_or (pt_wp X a) (pw_wp X _)) ?_
  refine bindP (wp := fun R => wpT X a σ H R) back_T (fun Q' p => h W ρ σ G H Q' tk re ok p) post fun v x G1 H1 _ g1 rx p => ?_
  subst rx
  cases v with
  | true => exact iteT (p _ G1 H1 (Gr.refl g1.ok) rfl)
  | false => exact iteF (h2 W ρ σ G1 H1 Q tk (re.mono g1) g1.ok p)
/-- and, or as values (all but the last a bool) -/
def eAnd (fa fb : En → Res D) : En → Res D := fun ρ => (fa ρ).bind fun x => (boolD x).bind fun k => if k then fb ρ else .ok (.bool false)
def eOr (fa fb : En → Res D) : En → Res D := fun ρ => (fa ρ).bind fun x => (boolD x).bind fun k => if k then .ok (.bool true) else fb ρ
def eNot (fa : En → Res D) : En → Res D := fun ρ => (fa ρ).bind fun x => (boolD x).bind fun k => .ok (.bool (!k))
theorem de_one {op : BoolOp} (h : DE TS X a fa) : DE TS X (.BoolOp op [a] pos) fa := .mk fun W ρ σ G H Q tk re ok post => wpE_of (pe_one (pe_wp X a)) (h W ρ σ G H Q tk re ok post)
theorem de_and (h : DE TS X a fa) (h2 : DE TS X (.BoolOp .And (b :: rest) pos) fb) : DE TS X (.BoolOp .And (a :: b :: rest) pos) (eAnd fa fb) := by
  refine ⟨?_⟩
  intro W ρ σ G H Q tk re ok post
  refine wpE_of (pe_and (pe_wp X a) (pe_wp X _)) ?_
  refine bindP (wp := fun R => wpE X a σ H R) back_E (fun Q' p => h W ρ σ G H Q' tk re ok p) post fun v x G1 H1 _ g1 rx p => ?_
  cases rx with
  | bl k =>
    refine ⟨k, rfl, ?_⟩
    cases k with
    | true => exact iteT (h2 W ρ σ G1 H1 Q tk (re.mono g1) g1.ok p)
    | false => exact iteF (fin1 g1.ok p (.bl _))
  | _ => exact p.elim
theorem de_or (h : DE TS X a fa) (h2 : DE TS X (.BoolOp .Or (b :: rest) pos) fb) : DE TS X (.BoolOp .Or (a :: b :: rest) pos) (eOr fa fb) := by
  refine ⟨?_⟩
  intro W ρ σ G H Q tk re ok post
  refine wpE_of (pe_or (pe_wp X a) (pe_wp X _)) ?_
  refine bindP (wp := fun R => wpE X a σ H R) back_E (fun Q' p => h W ρ σ G H Q' tk re ok p) post fun v x G1 H1 _ g1 rx p => ?_
  cases rx with
  | bl k =>
    refine ⟨k, rfl, ?_⟩
    cases k with
    | true => exact iteT (fin1 g1.ok p (.bl _))
    | false => exact iteF (h2 W ρ σ G1 H1 Q tk (re.mono g1) g1.ok p)
  | _ => exact p.elim
theorem de_not (h : DE TS X a fa) : DE TS X (.UnaryOp .Not a pos) (eNot fa) := by
  refine ⟨?_⟩
  intro W ρ σ G H Q tk re ok post
  refine wpE_of (pe_not (pe_wp X a)) ?_
  refine bindP (wp := fun R => wpE X a σ H R) back_E (fun Q' p => h W ρ σ G H Q' tk re ok p) post fun v x G1 H1 _ g1 rx p => ?_
  cases rx with
  | bl k => exact ⟨k, rfl, fin1 g1.ok p (.bl _)⟩
  | _ => exact p.elim
theorem de_if (ht : DT TS X c t) (ha : DE TS X a fa) (hb : DE TS X b fb) : DE TS X (.IfExp c a b pos) (eIf t fa fb) := by
  refine ⟨?_⟩
  intro W ρ σ G H Q tk re ok post
  refine wpE_of (pe_ifExp (pt_wp X c) (pe_wp X a) (pe_wp X b)) ?_
  refine bindP (wp := fun R => wpT X c σ H R) back_E (fun Q' p => ht W ρ σ G H Q' tk re ok p) post fun v x G1 H1 _ g1 rx p => ?_
  subst rx
  cases v with
  | true => exact iteT (ha W ρ σ G1 H1 Q tk (re.mono g1) g1.ok p)
  | false => exact iteF (hb W ρ σ G1 H1 Q tk (re.mono g1) g1.ok p)
def eChain (g g' : D → D → Res D) (fa fb fc : En → Res D) : En → Res D := fun ρ => (fa ρ).bind fun x => (fb ρ).bind fun y => (g x y).bind fun z => (boolD z).bind fun k => if k then (fc ρ).bind fun w => g' y w else .ok (.bool false)
theorem chain_ok {op op' : CmpOp} {g g' : D → D → Res D} {W : WX} {ρ : En} {σ : L2.St} {G H : Hp} {Q : VK} (o1 : OpD TS X (compareOp op) g) (o2 : OpD TS X (compareOp op') g') (ha : DE TS X a fa) (hb : DE TS X b fb) (hc : DE TS X c fc)
    (tk : Takes X W) (re : RpE TS X.K G H ρ σ) (ok : Ok0 TS G H) (post : PostG (RelE X.K) TS X W σ G H (eChain g g' fa fb fc ρ) Q) : tChain (wpO X (compareOp op)) (wpO X (compareOp op')) (wpE X a) (wpE X b) (wpE X c) σ H Q := by
  refine bindP (wp := fun R => wpE X a σ H R) back_E (fun Q' p => ha W ρ σ G H Q' tk re ok p) post fun v x G1 H1 _ g1 rx p => ?_
  refine bindP (wp := fun R => wpE X b σ H1 R) back_E (fun Q' q => hb W ρ σ G1 H1 Q' tk (re.mono g1) g1.ok q) p fun u y G2 H2 _ g2 ry p => ?_
  refine bindP (wp := fun R => wpO X (compareOp op) v u H2 R) back_E (fun Q' q => o1 W σ v u x y G2 H2 Q' g2.ok (rx.mono g2.g) ry q) p fun z zd G3 H3 _ g3 rz p => ?_
  cases rz with
  | bl k =>
    refine ⟨k, rfl, ?_⟩
    cases k with
    | true =>
      refine iteT (bindP (wp := fun R => wpE X c σ H3 R) back_E (fun Q' q => hc W ρ σ G3 H3 Q' tk (((re.mono g1).mono g2).mono g3) g3.ok q) p fun w' wd G4 H4 _ g4 rw' p => ?_)
      exact o2 W σ u w' y wd G4 H4 Q g4.ok ((ry.mono g3.g).mono g4.g) rw' p
    | false => exact iteF (fin1 g3.ok p (.bl _))
  | _ => exact p.elim
theorem de_chain {op op' : CmpOp} {g g' : D → D → Res D} (o1 : OpD TS X (compareOp op) g) (o2 : OpD TS X (compareOp op') g') (ha : DE TS X a fa) (hb : DE TS X b fb) (hc : DE TS X c fc) (hm : lastMarks [op, op'] [b, c] = false := by with_unfolding_all rfl) :
    DE TS X (.Compare a [op, op'] [b, c] pos) (eChain g g' fa fb fc) := by
  refine ⟨?_⟩
  intro W ρ σ G H Q tk re ok post
  exact wpE_of (pe_chain (opr_wp _) (opr_wp _) (pe_wp X a) (pe_wp X b) (pe_wp X c) hm) (chain_ok o1 o2 ha hb hc tk re ok post)
theorem dt_chain {op op' : CmpOp} {g g' : D → D → Res D} (o1 : OpD TS X (compareOp op) g) (o2 : OpD TS X (compareOp op') g') (ha : DE TS X a fa) (hb : DE TS X b fb) (hc : DE TS X c fc) (hm : lastMarks [op, op'] [b, c] = false := by with_unfolding_all rfl) :
    DT TS X (.Compare a [op, op'] [b, c] pos) (tE boolD (eChain g g' fa fb fc)) := by
  refine ⟨?_⟩
  intro W ρ σ G H Q tk re ok post
  refine wpT_of (pt_chain (opr_wp _) (opr_wp _) (pe_wp X a) (pe_wp X b) (pe_wp X c) hm) ?_
  refine bindP (Ra := RelE X.K) (wp := fun R => tChain (wpO X (compareOp op)) (wpO X (compareOp op')) (wpE X a) (wpE X b) (wpE X c) σ H R) back_T (fun Q' p => chain_ok o1 o2 ha hb hc tk re ok p) post fun v x G1 H1 _ g1 rx p => ?_
  cases rx with
  | bl k => exact ⟨k, rfl, p k G1 H1 (Gr.refl g1.ok) rfl⟩
  | _ => exact p.elim

/-! #### arguments, displays -/
theorem da_nil : DA TS X [] a0 := by
  refine ⟨?_⟩
  intro W ρ σ G H Q tk re ok post
  exact wpA_of pa_nil (post [] G H (Gr.refl ok) .nil)
theorem da_cons (ha : DE TS X a fa) (hr : DA TS X es fr) (hs : starEach (a :: es) X.env = (false, eval a X.env) :: starEach es X.env := by rfl) : DA TS X (a :: es) (aC fa fr) := by
  refine ⟨?_⟩
  intro W ρ σ G H Q tk re ok post
  refine wpA_of (pa_cons (pe_wp X a) (pa_wp X es) hs) ?_
  refine bindP (wp := fun R => wpE X a σ H R) back_A (fun Q' p => ha W ρ σ G H Q' tk re ok p) post fun v x G1 H1 _ g1 rx p => ?_
  refine bindP (wp := fun R => wpA X es σ H1 R) back_A (fun Q' q => hr W ρ σ G1 H1 Q' tk (re.mono g1) g1.ok q) p fun vs xs G2 H2 _ g2 rxs p => ?_
  exact p _ G2 H2 (Gr.refl g2.ok) (.cons (rx.mono g2.g) rxs)
def tupD (ds : List D) : Res D := okL ds.length (.ok (.tuple ds))
theorem de_tup {x1} (ha : DA TS X es fr) : DE TS X (.Tuple es x1 pos) (eN tupD fr) := by
  refine ⟨?_⟩
  intro W ρ σ G H Q tk re ok post
  refine wpE_of (pe_tup (pa_wp X es)) ?_
  refine bindP (wp := fun R => wpA X es σ H R) back_E (fun Q' p => ha W ρ σ G H Q' tk re ok p) post fun vs xs G1 H1 _ g1 rxs p => ?_
  obtain ⟨h, p⟩ := okL_post p
  refine ⟨lim_line (by rw [rxs.len]; exact h), fun q hq => ?_⟩
  have g := Gr.new (o := .tup vs) g1.ok hq
  exact p _ _ _ g (.tup (.inl (.inl upd_same)) (rxs.mono g.g))
def lN (fr : En → Res (List D)) : En → Res (List D) := fun ρ => (fr ρ).bind fun ds => okL ds.length (.ok ds)
theorem dl_lst (ha : DA TS X es fr) : DL TS X (.List es pos) (lN fr) := by
  refine ⟨?_⟩
  intro W ρ σ G H Q tk re ok post
  refine wpE_of (pe_lst (pa_wp X es)) ?_
  refine bindP (wp := fun R => wpA X es σ H R) back_L (fun Q' p => ha W ρ σ G H Q' tk re ok p) post fun vs xs G1 H1 _ g1 rxs p => ?_
  obtain ⟨h, p⟩ := okL_post p
  refine ⟨lim_line (by rw [rxs.len]; exact h), fun q hq => ?_⟩
  exact p _ _ _ (Gr.own (o := .lst vs) g1.ok hq) ⟨q, vs, rfl, hq, fresh_back g1.ok.le hq, upd_same, rxs⟩

/-! #### subscripts -/
theorem atI_rel {K : PySem.W.Frag} {G : Hp} {xs : List V} {ds : List D} {i : Int} {d : D} (r : Rps K G xs ds) (h : atI ds i = some d) : ∃ v, atI xs i = some v ∧ Rp K G v d := by
  unfold atI at h ⊢
  rw [r.len]
  cases e : ixN ds.length i with
  | none =>
    rw [e] at h
    cases h
  | some j =>
    rw [e] at h
    exact r.at h
theorem de_ix (ha : DE TS X a fa) (hb : DE TS X b fb) (hs : PlainIx b := by exact fun _ _ => rfl) : DE TS X (.Subscript a b pos) (e2 atD fa fb) := by
  refine ⟨?_⟩
  intro W ρ σ G H Q tk re ok post
  refine wpE_of (pe_ix ixr_wp (pe_wp X a) (pe_wp X b) hs) (two ha hb tk re ok post fun v u x y G2 H2 ok2 rx ry p => ?_)
  unfold atD at p
  split at p
  · obtain ⟨l, xs, rfl, h, r⟩ := rx.list_inv
    cases ry
    split at p
    · rename_i d hd
      obtain ⟨v, h1, h2⟩ := atI_rel r hd
      exact wpI_of ix_list ⟨l, xs, _, v, rfl, rfl, ex_l ok2.le h, h1, fin1 ok2 p h2⟩
    · exact p.elim
  · obtain ⟨l, xs, rfl, h, r⟩ := rx.tup_inv
    cases ry
    split at p
    · rename_i d hd
      obtain ⟨v, h1, h2⟩ := atI_rel r hd
      exact wpI_of ix_tup ⟨l, xs, _, v, rfl, rfl, ex_t ok2.le h, h1, fin1 ok2 p h2⟩
    · exact p.elim
  · cases rx
    cases ry
    obtain ⟨hl, p⟩ := okL_post p
    split at p
    · rename_i d hd
      exact wpI_of ix_str ⟨_, _, d, rfl, rfl, lim_line hl, hd, fin1 ok2 p (.str _)⟩
    · exact p.elim
  · exact p.elim
end
end Pyr

set_option Elab.async false
set_option linter.all false
set_option maxRecDepth 100000
set_option maxHeartbeats 1000000
namespace Pyr
open PySem PySem.Spec PyProof.Rows L2 Evl

/-! ### slices -/
def cutG {α : Type} (xs : List α) (lo hi : Option Int) : List α := (xs.drop (HT.sIx xs.length 0 lo)).take (HT.sIx xs.length xs.length hi - HT.sIx xs.length 0 lo)
theorem cutV_eq (xs : List V) (lo hi : Option Int) : cutV xs lo hi = cutG xs lo hi := rfl
theorem Rps.slice {K : PySem.W.Frag} {G : Hp} {xs : List V} {ds : List D} (r : Rps K G xs ds) (lo hi : Option Int) : Rps K G (cutG xs lo hi) (cutG ds lo hi) := by
  unfold cutG
  rw [r.len]
  exact (r.off _).cut _
theorem cutG_len {α : Type} (xs : List α) (lo hi : Option Int) : (cutG xs lo hi).length ≤ xs.length := by
  unfold cutG
  rw [List.length_take, List.length_drop]
  omega
def wpPO (X : Cx) (oe : Option Expr) : TO := match oe with
  | none => tNoPart
  | some e => tPart (wpE X e)
theorem po_wp (X : Cx) : ∀ oe : Option Expr, PO X oe (wpPO X oe)
  | none => po_none
  | some e => po_some (pe_wp X e)
def optI : D → Res (Option Int)
  | .int i => .ok (some i)
  | _ => .bad
def oNone : En → Res (Option Int) := fun _ => .ok none
def oSome (fa : En → Res D) : En → Res (Option Int) := fun ρ => (fa ρ).bind optI
abbrev RelO : Hp → Hp → Hp → Option Int → Option Int → Prop := fun _ _ _ v b => v = b
theorem back_O : Back RelO := fun _ _ _ _ _ _ _ h => h
structure DO (TS : TabList) (X : Cx) (oe : Option Expr) (f : En → Res (Option Int)) : Prop where
  run : ∀ (W : WX) (ρ : En) (σ : L2.St) (G H : Hp) (Q : Option Int → Hp → Prop), Takes X W → RpE TS X.K G H ρ σ → Ok0 TS G H → PostG RelO TS X W σ G H (f ρ) Q → wpPO X oe σ H Q
instance {TS : TabList} {X : Cx} {oe : Option Expr} {f : En → Res (Option Int)} : CoeFun (DO TS X oe f) fun _ => ∀ (W : WX) (ρ : En) (σ : L2.St) (G H : Hp) (Q : Option Int → Hp → Prop), Takes X W → RpE TS X.K G H ρ σ → Ok0 TS G H → PostG RelO TS X W σ G H (f ρ) Q → wpPO X oe σ H Q := ⟨DO.run⟩
def sliceD (x : D) (lo hi : Option Int) : Res D := match x with
  | .str z => okL z.length (.ok (.str (cutS z lo hi)))
  | .tuple ds => .ok (.tuple (cutG ds lo hi))
  | .list ds => .ok (.list (cutG ds lo hi))
  | _ => .bad
def eSlice (fa : En → Res D) (fl fh : En → Res (Option Int)) : En → Res D := fun ρ => (fa ρ).bind fun x => (fl ρ).bind fun lo => (fh ρ).bind fun hi => sliceD x lo hi
def listD : D → Res (List D)
  | .list ds => .ok ds
  | _ => .bad
def lSlice (fa : En → Res D) (fl fh : En → Res (Option Int)) : En → Res (List D) := fun ρ => (fa ρ).bind fun x => (fl ρ).bind fun lo => (fh ρ).bind fun hi => (listD x).bind fun ds => .ok (cutG ds lo hi)

section
variable {TS : TabList} {X : Cx} {a b c : Expr} {fa fb fc : En → Res D} {t u : En → Res Bool} {es rest : List Expr} {fr : En → Res (List D)} {pos p2 : Pos} {g : D → Res D} {g2 : D → D → Res D} {lo hi : Option Expr} {fl fh : En → Res (Option Int)}
theorem do_none : DO TS X none oNone := .mk fun W ρ σ G H Q tk re ok post => post none G H (Gr.refl ok) rfl
theorem do_some (ha : DE TS X a fa) : DO TS X (some a) (oSome fa) := by
  refine ⟨?_⟩
  intro W ρ σ G H Q tk re ok post
  refine bindP (wp := fun R => wpE X a σ H R) back_O (fun Q' p => ha W ρ σ G H Q' tk re ok p) post fun v x G1 H1 _ g1 rx p => ?_
  unfold optI at p
  split at p
  · cases rx
    exact ⟨_, rfl, p _ G1 H1 (Gr.refl g1.ok) rfl⟩
  · exact p.elim
theorem three {β γ : Type} {Rel : Hp → Hp → Hp → γ → β → Prop} (bk : Back Rel) {k : D → Option Int → Option Int → Res β} {W : WX} {ρ : En} {σ : L2.St} {G H : Hp} {Q : γ → Hp → Prop} {R : V → Option Int → Option Int → Hp → Prop} (ha : DE TS X a fa) (hl : DO TS X lo fl) (hh : DO TS X hi fh) (tk : Takes X W) (re : RpE TS X.K G H ρ σ) (ok : Ok0 TS G H)
    (post : PostG Rel TS X W σ G H ((fa ρ).bind fun x => (fl ρ).bind fun lo => (fh ρ).bind fun hi => k x lo hi) Q)
    (next : ∀ v x l h G2 H2, Gr TS G H G2 H2 → Rp X.K G2 v x → PostG Rel TS X W σ G2 H2 (k x l h) Q → R v l h H2) : wpE X a σ H fun v H1 => wpPO X lo σ H1 fun l H2 => wpPO X hi σ H2 fun h H3 => R v l h H3 := by
  refine bindP (wp := fun R => wpE X a σ H R) bk (fun Q' p => ha W ρ σ G H Q' tk re ok p) post fun v x G1 H1 _ g1 rx p => ?_
  refine bindP (wp := fun R => wpPO X lo σ H1 R) bk (fun Q' q => hl W ρ σ G1 H1 Q' tk (re.mono g1) g1.ok q) p fun l l' G2 H2 _ g2 rl p => ?_
  refine bindP (wp := fun R => wpPO X hi σ H2 R) bk (fun Q' q => hh W ρ σ G2 H2 Q' tk ((re.mono g1).mono g2) g2.ok q) p fun h h' G3 H3 _ g3 rh p => ?_
  subst rl
  subst rh
  exact next v x l h G3 H3 ((g1.trans g2).trans g3) ((rx.mono g2.g).mono g3.g) p
theorem de_slice (ha : DE TS X a fa) (hl : DO TS X lo fl) (hh : DO TS X hi fh) : DE TS X (.Subscript a (.Slice lo hi none p2) pos) (eSlice fa fl fh) := by
  refine ⟨?_⟩
  intro W ρ σ G H Q tk re ok post
  refine wpE_of (pe_slice slr_wp (pe_wp X a) (po_wp X lo) (po_wp X hi)) (three (Rel := RelE X.K) back_E ha hl hh tk re ok post fun v x l h G2 H2 g2 rx p => ?_)
  have ok2 := g2.ok
  unfold sliceD at p
  split at p
  · cases rx
    obtain ⟨hl, p⟩ := okL_post p
    exact wpS_of sl_str ⟨_, rfl, lim_line hl, fin1 ok2 p (.str _)⟩
  · obtain ⟨q, xs, rfl, hq, r⟩ := rx.tup_inv
    refine wpS_of sl_tupA ⟨q, xs, rfl, ex_t ok2.le hq, fun ⟨w1, w2⟩ => ?_, fun _ q' hq' => ?_⟩
    · refine fin1 ok2 p (.tup hq ?_)
      have z := r.slice l h
      unfold cutG at z
      rw [w1, w2, List.drop_zero, Nat.sub_zero, List.take_length] at z
      exact z
    · have g := Gr.new (o := .tup (cutV xs l h)) ok2 hq'
      exact p _ _ _ g (.tup (.inl (.inl upd_same)) ((r.slice l h).mono g.g))
  · obtain ⟨q, xs, rfl, hq, r⟩ := rx.list_inv
    refine wpS_of sl_list ⟨q, xs, rfl, ex_l ok2.le hq, fun q' hq' => ?_⟩
    have g := Gr.new (o := .lst (cutV xs l h)) ok2 hq'
    exact p _ _ _ g (.lst (.inl (.inl upd_same)) ((r.slice l h).mono g.g))
  · exact p.elim
theorem dl_slice (ha : DE TS X a fa) (hl : DO TS X lo fl) (hh : DO TS X hi fh) : DL TS X (.Subscript a (.Slice lo hi none p2) pos) (lSlice fa fl fh) := by
  refine ⟨?_⟩
  intro W ρ σ G H Q tk re ok post
  refine wpE_of (pe_slice slr_wp (pe_wp X a) (po_wp X lo) (po_wp X hi)) (three (Rel := RelL X.K) back_L ha hl hh tk re ok post fun v x l h G2 H2 g2 rx p => ?_)
  have ok2 := g2.ok
  cases x with
  | list ds =>
    obtain ⟨q, xs, rfl, hq, r⟩ := rx.list_inv
    refine wpS_of sl_list ⟨q, xs, rfl, ex_l ok2.le hq, fun q' hq' => ?_⟩
    exact p _ _ _ (Gr.own (o := .lst (cutV xs l h)) ok2 hq') ⟨q', _, rfl, hq', fresh_back ok2.le hq', upd_same, r.slice l h⟩
  | _ => exact p.elim

/-! ### built-in calls -/
structure CallD (TS : TabList) (X : Cx) (f : Value) (g : List D → Res D) : Prop where
  run : ∀ (W : WX) (σ : L2.St) (vs : List V) (ds : List D) (G H : Hp) (Q : VK), Ok0 TS G H → Rps X.K G vs ds → PostG (RelE X.K) TS X W σ G H (g ds) Q → wpC X f vs H Q
instance {TS : TabList} {X : Cx} {f : Value} {g : List D → Res D} : CoeFun (CallD TS X f g) fun _ => ∀ (W : WX) (σ : L2.St) (vs : List V) (ds : List D) (G H : Hp) (Q : VK), Ok0 TS G H → Rps X.K G vs ds → PostG (RelE X.K) TS X W σ G H (g ds) Q → wpC X f vs H Q := ⟨CallD.run⟩
structure CallL (TS : TabList) (X : Cx) (f : Value) (g : List D → Res (List D)) : Prop where
  run : ∀ (W : WX) (σ : L2.St) (vs : List V) (ds : List D) (G H : Hp) (Q : VK), Ok0 TS G H → Rps X.K G vs ds → PostG (RelL X.K) TS X W σ G H (g ds) Q → wpC X f vs H Q
instance {TS : TabList} {X : Cx} {f : Value} {g : List D → Res (List D)} : CoeFun (CallL TS X f g) fun _ => ∀ (W : WX) (σ : L2.St) (vs : List V) (ds : List D) (G H : Hp) (Q : VK), Ok0 TS G H → Rps X.K G vs ds → PostG (RelL X.K) TS X W σ G H (g ds) Q → wpC X f vs H Q := ⟨CallL.run⟩
def lF (g : List D → Res (List D)) (fa : En → Res (List D)) : En → Res (List D) := fun ρ => (fa ρ).bind g
section
variable {x : Str} {p : Pos} {id T : String} {gN : List D → Res D} {gL : List D → Res (List D)}
theorem de_callB (h : CallD TS X (.builtin id) gN) (hg : Gl X x) (hm : X.mg x = none) (hv : bootBuiltins x = some (.builtin id)) (ha : DA TS X (a :: es) fr) (hn : x ≠ "__name__" := by decide) (hdb : (x == ("__debug__" : Str)) = false := by decide)
    (he : starEach (a :: es) X.env = (false, eval a X.env) :: starEach es X.env := by rfl) (hpl : (backTo pos (starEach es X.env)).any (·.1) = false := by rfl) : DE TS X (.Call (.Name x p) (a :: es) [] pos) (eN gN fr) := by
  refine ⟨?_⟩
  intro W ρ σ G H Q tk re ok post
  refine wpE_of (pe_callB (cr_wp _) hg hm hv (pa_wp X (a :: es)) hn hdb he hpl) ?_
  exact bindP (wp := fun R => wpA X (a :: es) σ H R) back_E (fun Q' p => ha W ρ σ G H Q' tk re ok p) post fun vs ds G1 H1 _ g1 rs p => h W σ vs ds G1 H1 Q g1.ok rs p
theorem de_callTy (h : CallD TS X (.type T) gN) (hg : Gl X x) (hm : X.mg x = none) (hv : bootBuiltins x = some (.type T)) (ha : DA TS X (a :: es) fr) (hn : x ≠ "__name__" := by decide) (hdb : (x == ("__debug__" : Str)) = false := by decide)
    (he : starEach (a :: es) X.env = (false, eval a X.env) :: starEach es X.env := by rfl) (hpl : (backTo pos (starEach es X.env)).any (·.1) = false := by rfl) : DE TS X (.Call (.Name x p) (a :: es) [] pos) (eN gN fr) := by
  refine ⟨?_⟩
  intro W ρ σ G H Q tk re ok post
  refine wpE_of (pe_callTy (cr_wp _) hg hm hv (pa_wp X (a :: es)) hn hdb he hpl) ?_
  exact bindP (wp := fun R => wpA X (a :: es) σ H R) back_E (fun Q' p => ha W ρ σ G H Q' tk re ok p) post fun vs ds G1 H1 _ g1 rs p => h W σ vs ds G1 H1 Q g1.ok rs p
theorem dl_callB (h : CallL TS X (.builtin id) gL) (hg : Gl X x) (hm : X.mg x = none) (hv : bootBuiltins x = some (.builtin id)) (ha : DA TS X (a :: es) fr) (hn : x ≠ "__name__" := by decide) (hdb : (x == ("__debug__" : Str)) = false := by decide)
    (he : starEach (a :: es) X.env = (false, eval a X.env) :: starEach es X.env := by rfl) (hpl : (backTo pos (starEach es X.env)).any (·.1) = false := by rfl) : DL TS X (.Call (.Name x p) (a :: es) [] pos) (lF gL fr) := by
  refine ⟨?_⟩
  intro W ρ σ G H Q tk re ok post
  refine wpE_of (pe_callB (cr_wp _) hg hm hv (pa_wp X (a :: es)) hn hdb he hpl) ?_
  exact bindP (wp := fun R => wpA X (a :: es) σ H R) back_L (fun Q' p => ha W ρ σ G H Q' tk re ok p) post fun vs ds G1 H1 _ g1 rs p => h W σ vs ds G1 H1 Q g1.ok rs p
theorem dl_callTy (h : CallL TS X (.type T) gL) (hg : Gl X x) (hm : X.mg x = none) (hv : bootBuiltins x = some (.type T)) (ha : DA TS X (a :: es) fr) (hn : x ≠ "__name__" := by decide) (hdb : (x == ("__debug__" : Str)) = false := by decide)
    (he : starEach (a :: es) X.env = (false, eval a X.env) :: starEach es X.env := by rfl) (hpl : (backTo pos (starEach es X.env)).any (·.1) = false := by rfl) : DL TS X (.Call (.Name x p) (a :: es) [] pos) (lF gL fr) := by
  refine ⟨?_⟩
  intro W ρ σ G H Q tk re ok post
  refine wpE_of (pe_callTy (cr_wp _) hg hm hv (pa_wp X (a :: es)) hn hdb he hpl) ?_
  exact bindP (wp := fun R => wpA X (a :: es) σ H R) back_L (fun Q' p => ha W ρ σ G H Q' tk re ok p) post fun vs ds G1 H1 _ g1 rs p => h W σ vs ds G1 H1 Q g1.ok rs p
end
def oneD (g : D → Res D) : List D → Res D
  | [d] => g d
  | _ => .bad
theorem Rps.one_inv {K : PySem.W.Frag} {G : Hp} {vs : List V} {d : D} (r : Rps K G vs [d]) : ∃ v, vs = [v] ∧ Rp K G v d := by
  cases r with
  | cons h r =>
    cases r
    exact ⟨_, rfl, h⟩
theorem cd_len : CallD TS X (.builtin "len") (oneD lenD) := by
  refine ⟨?_⟩
  intro W σ vs ds G H Q ok rs p
  unfold oneD at p
  split at p
  · obtain ⟨v, rfl, r⟩ := rs.one_inv
    unfold lenD at p
    split at p
    · obtain ⟨q, xs, rfl, hq, r⟩ := r.list_inv
      exact wpC_of call_len_seq ⟨q, xs, rfl, .inl (ex_l ok.le hq), by rw [r.len]; exact fin1 ok p (.int _)⟩
    · obtain ⟨q, xs, rfl, hq, r⟩ := r.tup_inv
      exact wpC_of call_len_seq ⟨q, xs, rfl, .inr (ex_t ok.le hq), by rw [r.len]; exact fin1 ok p (.int _)⟩
    · cases r
      obtain ⟨h, p⟩ := okL_post p
      exact wpC_of call_len_str ⟨_, rfl, lim_line h, fin1 ok p (.int _)⟩
    · exact p.elim
  · exact p.elim
theorem cd_int : CallD TS X (.type "int") (oneD intD) := by
  refine ⟨?_⟩
  intro W σ vs ds G H Q ok rs p
  unfold oneD at p
  split at p
  · obtain ⟨v, rfl, r⟩ := rs.one_inv
    unfold intD at p
    split at p
    · cases r
      exact wpC_of call_int1 (.inl ⟨_, rfl, fin1 ok p (.int _)⟩)
    · cases r
      exact wpC_of call_int1 (.inr ⟨_, rfl, fin1 ok p (.int _)⟩)
    · exact p.elim
  · exact p.elim
def itemsD : D → Res (List D)
  | .list ds => .ok ds
  | .tuple ds => .ok ds
  | _ => .bad
def oneL (g : D → Res (List D)) : List D → Res (List D)
  | [d] => g d
  | _ => .bad
theorem cl_list : CallL TS X (.type "list") (oneL itemsD) := by
  refine ⟨?_⟩
  intro W σ vs ds G H Q ok rs p
  unfold oneL at p
  split at p
  · obtain ⟨v, rfl, r⟩ := rs.one_inv
    unfold itemsD at p
    split at p
    · obtain ⟨q, xs, rfl, hq, r⟩ := r.list_inv
      exact wpC_of call_list_of ⟨q, xs, rfl, .inl (ex_l ok.le hq), fun l hl => p _ _ _ (Gr.own (o := .lst xs) ok hl) ⟨l, xs, rfl, hl, fresh_back ok.le hl, upd_same, r⟩⟩
    · obtain ⟨q, xs, rfl, hq, r⟩ := r.tup_inv
      exact wpC_of call_list_of ⟨q, xs, rfl, .inr (ex_t ok.le hq), fun l hl => p _ _ _ (Gr.own (o := .lst xs) ok hl) ⟨l, xs, rfl, hl, fresh_back ok.le hl, upd_same, r⟩⟩
    · exact p.elim
  · exact p.elim
theorem cd_tuple : CallD TS X (.type "tuple") (oneD fun d => (itemsD d).map .tuple) := by
  refine ⟨?_⟩
  intro W σ vs ds G H Q ok rs p
  unfold oneD at p
  split at p
  · obtain ⟨v, rfl, r⟩ := rs.one_inv
    rename_i d
    have p : PostG (RelE X.K) TS X W σ G H ((itemsD d).map .tuple) Q := p
    unfold itemsD at p
    split at p
    · obtain ⟨q, xs, rfl, hq, r⟩ := r.list_inv
      refine wpC_of call_tuple_of ⟨q, xs, rfl, .inl ⟨ex_l ok.le hq, fun l hl => ?_⟩⟩
      have g := Gr.new (o := .tup xs) ok hl
      exact p _ _ _ g (.tup (.inl (.inl upd_same)) (r.mono g.g))
    · obtain ⟨q, xs, rfl, hq, r⟩ := r.tup_inv
      exact wpC_of call_tuple_of ⟨q, xs, rfl, .inr ⟨ex_t ok.le hq, fin1 ok p (.tup hq r)⟩⟩
    · exact p.elim
  · exact p.elim

/-! ### isinstance -/
def tyN : D → String
  | .none => "NoneType"
  | .bool _ => "bool"
  | .int _ => "int"
  | .str _ => "str"
  | .list _ => "list"
  | .tuple _ => "tuple"
  | .dict _ => "dict"
def isiB (T : String) (d : D) : Bool := tyN d == T || (T == "int" && tyN d == "bool")
def isiD (T : String) : D → Res D := fun d => .ok (.bool (isiB T d))
def KitOk (T : String) : Prop := ∀ d : D, kitB (tyN d) T = some (isiB T d)
theorem kit_all {T : String} (h : (["NoneType", "bool", "int", "str", "list", "tuple", "dict"].all fun t => decide (kitB t T = some (t == T || (T == "int" && t == "bool")))) = true) : KitOk T := fun d => by
  have m : tyN d ∈ ["NoneType", "bool", "int", "str", "list", "tuple", "dict"] := by cases d <;> simp [tyN]
  exact of_decide_eq_true (List.all_eq_true.mp h _ m)
theorem kit_str : KitOk "str" := kit_all (by decide +kernel)
theorem kit_int : KitOk "int" := kit_all (by decide +kernel)
theorem kit_bool : KitOk "bool" := kit_all (by decide +kernel)
theorem kit_list : KitOk "list" := kit_all (by decide +kernel)
theorem kit_tuple : KitOk "tuple" := kit_all (by decide +kernel)
theorem kit_dict : KitOk "dict" := kit_all (by decide +kernel)
theorem tyX_of {K : PySem.W.Frag} {H : Hp} {v : V} {d : D} (r : Rp K H v d) : TyX K H v (.type (tyN d)) := by
  cases r with
  | non => exact .base .non
  | bl b => exact .base (.bl b)
  | int i => exact .base (.int i)
  | str x => exact .base (.str x)
  | lst h _ =>
    rcases h with (h | ⟨o, h⟩) | ⟨o, its, n, h, hc, _⟩
    · exact .base (.lst h)
    · exact .base (.frz h)
    · exact .kList h hc
  | tup h _ =>
    rcases h with (h | ⟨o, h⟩) | ⟨o, its, n, h, hc, _⟩
    · exact .base (.tup h)
    · exact .fTuple h
    · exact .kTuple h hc
  | dic h _ => exact .base (.dK h)
theorem de_isi {T : String} {xT : Str} {p p1 : Pos} (kt : KitOk T) (hg : Gl X "isinstance") (hm : X.mg "isinstance" = none) (hgT : Gl X xT) (hmT : X.mg xT = none) (hvT : bootBuiltins xT = some (.type T)) (ha : DE TS X a fa)
    (hnT : xT ≠ "__name__" := by decide) (hdT : (xT == ("__debug__" : Str)) = false := by decide)
    (he : starEach [a, .Name xT p1] X.env = (false, eval a X.env) :: starEach [.Name xT p1] X.env := by rfl) (he2 : starEach [.Name xT p1] X.env = (false, eval (.Name xT p1) X.env) :: starEach [] X.env := by rfl) (hpl : (backTo pos (starEach [.Name xT p1] X.env)).any (·.1) = false := by rfl) :
    DE TS X (.Call (.Name "isinstance" p) [a, .Name xT p1] [] pos) (e1 (isiD T) fa) := by
  refine ⟨?_⟩
  intro W ρ σ G H Q tk re ok post
  refine wpE_of (pe_callB call_isi hg hm (by decide +kernel) (pa_cons (pe_wp X a) (pa_cons (pe_bltn (v := .ty T) hgT hmT hvT rfl hnT hdT) pa_nil he2) he) (by decide) (by decide) he hpl) ?_
  refine bindP (wp := fun R => wpE X a σ H R) back_E (fun Q' p => ha W ρ σ G H Q' tk re ok p) post fun v x G1 H1 _ g1 rx p => ?_
  exact ⟨v, .ty T, _, _, _, rfl, .ty T, tyX_of (rx.mono g1.ok.le), kit_ty (kt x), fin1 g1.ok p (.bl _)⟩

/-! ### own calls -/
end
inductive RV where
  | val (d : D)
  | own (ds : List D)
def RV.d : RV → D
  | .val d => d
  | .own ds => .list ds
def PostF (TS : TabList) (K : PySem.W.Frag) (mg : Str → Option Value) (G H : Hp) (r : Res RV) (Q : VK) (E : XK) : Prop := match r with
  | .ok (.val d) => ∀ v G' H', Gr TS G H G' H' → Rp K G' v d → Q v H'
  | .ok (.own ds) => ∀ v G' H', Gr TS G H G' H' → RelL K H G' H' v ds → Q v H'
  | .exc c fs => ∀ (C : Addr) (d : Option Addr) (G' H' : Hp), mg c = some (.ref C) → Gr TS G H G' H' → ExcRep K G' H' d fs → E (.ref C) d H'
  | .bad => False
def spD (TS : TabList) (K : PySem.W.Frag) (mg : Str → Option Value) (m : List D → Res RV) : Sp := fun vs H Q E => ∃ G ds, Rps K G vs ds ∧ Ok0 TS G H ∧ PostF TS K mg G H (m ds) Q E
structure Known (TS : TabList) (P : Program) (w : World) (K : PySem.W.Frag) (mg : Str → Option Value) (base : Heap) (k : Nat) (x : Str) (ps : List Str) (m : List D → Res RV) : Prop where
  ex : ∃ f fd, FnOk P w K mg base (L2.CX P w) k f fd ps (spD TS K mg m) ∧ mg x = some (.ref f) ∧ PySem.W.keepIn K (.ref f) = true ∧ Binds K fd ps []
def eCall (m : List D → Res RV) (fr : En → Res (List D)) : En → Res D := fun ρ => (fr ρ).bind fun ds => (m ds).map RV.d
def ownD : RV → Res (List D)
  | .own ds => .ok ds
  | .val _ => .bad
def lCall (m : List D → Res RV) (fr : En → Res (List D)) : En → Res (List D) := fun ρ => (fr ρ).bind fun ds => (m ds).bind ownD
section
variable {TS : TabList} {X : Cx} {a : Expr} {es : List Expr} {fr : En → Res (List D)} {pos p : Pos} {x : Str} {ps : List Str} {k k' : Nat} {m : List D → Res RV}
theorem de_call (F : Known TS X.prog X.w X.K X.mg X.base k x ps m) (hr : Room k' X.A) (hk : k ≤ k') (hg : Gl X x) (ha : DA TS X (a :: es) fr) (hdb : (x == ("__debug__" : Str)) = false := by decide)
    (he : starEach (a :: es) X.env = (false, eval a X.env) :: starEach es X.env := by rfl) (hpl : (backTo pos (starEach es X.env)).any (·.1) = false := by rfl) : DE TS X (.Call (.Name x p) (a :: es) [] pos) (eCall m fr) := by
  refine ⟨?_⟩
  intro W ρ σ G H Q tk re ok post
  obtain ⟨f, fd, F, hm, hkp, hb⟩ := F.ex
  refine wpE_of (pe_callSD F (hr.mono hk) hg hm hkp hb .nil (passAt tk) (pa_wp X (a :: es)) hdb he hpl) ?_
  refine bindP (wp := fun R => wpA X (a :: es) σ H R) back_E (fun Q' p => ha W ρ σ G H Q' tk re ok p) post fun vs ds G1 H1 _ g1 rs p => ?_
  rw [List.append_nil]
  refine ⟨G1, ds, rs, g1.ok, ?_⟩
  · cases hm : m ds with
    | ok r =>
      rw [hm] at p
      cases r with
      | val d => exact p
      | own ys =>
        rintro v G' H' g ⟨q, ws, rfl, h0, g0, hp, r⟩
        obtain ⟨e1, e2⟩ := Gr.count g.ok g0 hp
        refine p _ _ H' ⟨g.g.trans e1, g.h, fun a q' => ?_, e2⟩ (.lst (.inl (.inl upd_same)) (r.mono e1))
        by_cases z : a = q
        · subst z
          exact .inr h0
        · rw [upd_ne z] at q'
          exact g.nw a q'
    | exc c fs =>
      rw [hm] at p
      exact p
    | bad =>
      rw [hm] at p
      exact p
theorem dl_call (F : Known TS X.prog X.w X.K X.mg X.base k x ps m) (hr : Room k' X.A) (hk : k ≤ k') (hg : Gl X x) (ha : DA TS X (a :: es) fr) (hdb : (x == ("__debug__" : Str)) = false := by decide)
    (he : starEach (a :: es) X.env = (false, eval a X.env) :: starEach es X.env := by rfl) (hpl : (backTo pos (starEach es X.env)).any (·.1) = false := by rfl) : DL TS X (.Call (.Name x p) (a :: es) [] pos) (lCall m fr) := by
  refine ⟨?_⟩
  intro W ρ σ G H Q tk re ok post
  obtain ⟨f, fd, F, hm, hkp, hb⟩ := F.ex
  refine wpE_of (pe_callSD F (hr.mono hk) hg hm hkp hb .nil (passAt tk) (pa_wp X (a :: es)) hdb he hpl) ?_
  refine bindP (wp := fun R => wpA X (a :: es) σ H R) back_L (fun Q' p => ha W ρ σ G H Q' tk re ok p) post fun vs ds G1 H1 _ g1 rs p => ?_
  rw [List.append_nil]
  refine ⟨G1, ds, rs, g1.ok, ?_⟩
  cases hm : m ds with
  | ok r =>
    rw [hm] at p
    cases r with
    | val d => exact p.elim
    | own ys => exact p
  | exc c fs =>
    rw [hm] at p
    exact p
  | bad =>
    rw [hm] at p
    exact p
end
end Pyr

set_option Elab.async false
set_option autoImplicit false
set_option linter.all false
set_option maxRecDepth 100000
set_option maxHeartbeats 1000000
namespace Pyr
open PySem PySem.Spec PyProof.Rows L2 Evl

/-! ### slots of a frame -/
inductive Own where
  | lst (ds : List D)
  | set (ds : List D)
inductive Sl where
  | emp
  | val (d : D)
  | own (o : Own)
abbrev Frm := List Sl
def Own.d : Own → Option D
  | .lst ds => some (.list ds)
  | .set ds => some (stD ds)
def purE (ρ : Frm) : En := ρ.map fun s => match s with
  | .val d => some d
  | .own (.lst ds) => some (loD ds)
  | .own (.set ds) => some (stD ds)
  | .emp => none
def frzE (ρ : Frm) : En := ρ.map fun s => match s with
  | .val d => some d
  | .own o => o.d
  | .emp => none
/-- an own object, its footprint -/
inductive RpO (T : TabList) (K : PySem.W.Frag) (G H : Hp) : List Addr → V → Own → Prop
  | lst {a : Addr} {vs : List V} {ds : List D} : H a = some (.lst vs) → Rps K G vs ds → RpO T K G H [a] (.ref a) (.lst ds)
  | set {a : Addr} {ds : List D} : H a = some (setO T.P T.w a ds) → RpO T K G H [a] (.ref a) (.set ds)
section
variable {TS : TabList} {K : PySem.W.Frag} {G H G' H' : Hp} {fp : List Addr} {v : V} {o : Own}
theorem RpO.keep (r : RpO TS K G H fp v o) (e : Ex G G') (h : ∀ a ∈ fp, ∀ u, H a = some u → isTb u = false → H' a = some u) : RpO TS K G' H' fp v o := by
  cases r with
  | lst h1 r => exact .lst (h _ (by simp) _ h1 rfl) (r.mono e)
  | set h1 => exact .set (h _ (by simp) _ h1 rfl)
theorem RpO.there (r : RpO TS K G H fp v o) : ∀ a ∈ fp, ∃ u, H a = some u ∧ isTb u = false := by
  cases r with
  | lst h1 r =>
    intro b hb
    rw [List.mem_singleton.mp hb]
    exact ⟨_, h1, rfl⟩
  | set h1 =>
    intro b hb
    rw [List.mem_singleton.mp hb]
    exact ⟨_, h1, rfl⟩
theorem ExT.at (e : ExT H H') {a : Addr} {u : HO} (h : H a = some u) (n : isTb u = false) : H' a = some u := e.same a u h fun ps z => by
  subst z
  cases n
end
/-- the state of a frame: G_0, H_0 the heaps at the entry -/
structure SI (TS : TabList) (K : PySem.W.Frag) (G_0 H_0 : Hp) (ρ : Frm) (σ : L2.St) (G H : Hp) (fp : Nat → List Addr) : Prop where
  gr : Gr TS G_0 H_0 G H
  len : ρ.length = σ.length
  val : ∀ (i : Nat) (d : D), ρ[i]? = some (Sl.val d) → ∃ v, σ[i]? = some (some v) ∧ Rp K G v d
  own : ∀ (i : Nat) (o : Own), ρ[i]? = some (Sl.own o) → ∃ v, σ[i]? = some (some v) ∧ RpO TS K G H (fp i) v o
  apart : ∀ (i j : Nat) (o u : Own), ρ[i]? = some (Sl.own o) → ρ[j]? = some (Sl.own u) → i ≠ j → ∀ a ∈ fp i, a ∉ fp j
  free : ∀ (i : Nat) (o : Own), ρ[i]? = some (Sl.own o) → ∀ a ∈ fp i, G a = none ∧ H_0 a = none
/-- the heap without tables -/
def noTb (H : Hp) : Hp := fun a => match H a with
  | some (.tbl _) => none
  | o => o
theorem noTb_some {H : Hp} {a : Addr} {u : HO} : noTb H a = some u ↔ H a = some u ∧ isTb u = false := by
  unfold noTb
  cases h : H a with
  | none => simp
  | some o =>
    cases o <;> simp <;> intro e <;> subst e <;> rfl
theorem noTb_ex (H : Hp) : Ex (noTb H) H := fun a u h => (noTb_some.mp h).1
section
variable {TS : TabList} {K : PySem.W.Frag} {G_0 H_0 G H G1 H1 : Hp} {ρ : Frm} {σ : L2.St} {fp : Nat → List Addr}
theorem ok_noTb (k : Ok0 TS G H) : Ok0 TS (noTb H) H := ⟨noTb_ex H, k.tb, fun _ _ h => (noTb_some.mp h).2⟩
theorem ex_noTb (k : Ok0 TS G H) : Ex G (noTb H) := fun a u h => noTb_some.mpr ⟨k.le a u h, k.nt a u h⟩
theorem SI.pure (s : SI TS K G_0 H_0 ρ σ G H fp) : RpE TS K G H (purE ρ) σ := ⟨by unfold purE; rw [List.length_map, s.len]; exact Nat.le_refl _, fun i d h hlo => (by
  unfold purE at h
  rw [List.getElem?_map] at h
  cases e : ρ[i]? with
  | none =>
    rw [e] at h
    cases h
  | some x =>
    rw [e] at h
    cases x with
    | val d' =>
      cases h
      exact s.val i d e
    | emp => cases h
    | own o =>
      cases o with
      | lst _ =>
        cases h
        cases hlo
      | set _ =>
        cases h
        cases hlo), fun i ds h => (by
  unfold purE at h
  rw [List.getElem?_map] at h
  cases e : ρ[i]? with
  | none =>
    rw [e] at h
    cases h
  | some x =>
    rw [e] at h
    cases x with
    | val d' =>
      cases h
      obtain ⟨v, h1, h2⟩ := s.val i _ e
      exact absurd h2.notLo (by simp [isLo])
    | emp => cases h
    | own o =>
      obtain ⟨v, h1, h2⟩ := s.own i o e
      generalize fp i = q at h2
      cases h2 with
      | lst h3 r =>
        cases h
        exact ⟨_, _, h1, h3, r⟩
      | set h3 => cases h), fun i ds h => by
  unfold purE at h
  rw [List.getElem?_map] at h
  cases e : ρ[i]? with
  | none =>
    rw [e] at h
    cases h
  | some x =>
    rw [e] at h
    cases x with
    | val d' =>
      cases h
      obtain ⟨v, h1, h2⟩ := s.val i _ e
      exact absurd h2.notLo (by simp [isLo])
    | emp => cases h
    | own o =>
      obtain ⟨v, h1, h2⟩ := s.own i o e
      generalize fp i = q at h2
      cases h2 with
      | lst h3 r => cases h
      | set h3 =>
        cases h
        exact ⟨_, h1, h3⟩⟩
theorem SI.frz (s : SI TS K G_0 H_0 ρ σ G H fp) : RpE TS K (noTb H) H (frzE ρ) σ := ⟨by unfold frzE; rw [List.length_map, s.len]; exact Nat.le_refl _, fun i d h hlo => (by
  unfold frzE at h
  rw [List.getElem?_map] at h
  cases e : ρ[i]? with
  | none =>
    rw [e] at h
    cases h
  | some x =>
    rw [e] at h
    cases x with
    | val d' =>
      cases h
      obtain ⟨v, h1, h2⟩ := s.val i d e
      exact ⟨v, h1, h2.mono (ex_noTb s.gr.ok)⟩
    | emp => cases h
    | own o =>
      obtain ⟨v, h1, h2⟩ := s.own i o e
      generalize fp i = q at h2
      cases h2 with
      | lst h3 r =>
        cases h
        exact ⟨_, h1, .lst (.inl (.inl (noTb_some.mpr ⟨h3, rfl⟩))) (r.mono (ex_noTb s.gr.ok))⟩
      | set h3 =>
        cases h
        cases hlo), fun i ds h => (by
  unfold frzE at h
  rw [List.getElem?_map] at h
  cases e : ρ[i]? with
  | none =>
    rw [e] at h
    cases h
  | some x =>
    rw [e] at h
    cases x with
    | val d' =>
      cases h
      obtain ⟨v, h1, h2⟩ := s.val i _ e
      exact absurd h2.notLo (by simp [isLo])
    | emp => cases h
    | own o =>
      cases o <;> cases h), fun i ds h => by
  unfold frzE at h
  rw [List.getElem?_map] at h
  cases e : ρ[i]? with
  | none =>
    rw [e] at h
    cases h
  | some x =>
    rw [e] at h
    cases x with
    | val d' =>
      cases h
      obtain ⟨v, h1, h2⟩ := s.val i _ e
      exact absurd h2.notLo (by simp [isLo])
    | emp => cases h
    | own o =>
      obtain ⟨v, h1, h2⟩ := s.own i o e
      generalize fp i = q at h2
      cases h2 with
      | lst h3 r => cases h
      | set h3 =>
        cases h
        exact ⟨_, h1, h3⟩⟩
/-- after an expression -/
theorem SI.grow (s : SI TS K G_0 H_0 ρ σ G H fp) (g : Gr TS G H G1 H1) : SI TS K G_0 H_0 ρ σ G1 H1 fp := by
  refine ⟨s.gr.trans g, s.len, fun i d h => ?_, fun i o h => ?_, s.apart, fun i o h a ha => ?_⟩
  · obtain ⟨v, h1, h2⟩ := s.val i d h
    exact ⟨v, h1, h2.mono g.g⟩
  · obtain ⟨v, h1, h2⟩ := s.own i o h
    exact ⟨v, h1, h2.keep g.g fun a _ u hu n => g.h.at hu n⟩
  · obtain ⟨v, h1, h2⟩ := s.own i o h
    obtain ⟨u, hu, _⟩ := h2.there a ha
    obtain ⟨z1, z2⟩ := s.free i o h a ha
    refine ⟨?_, z2⟩
    cases q : G1 a with
    | none => rfl
    | some w =>
      rcases g.nw a (by rw [q]; simp) with c | c
      · exact absurd z1 c
      · rw [hu] at c
        cases c
theorem set_at {α : Type} {l : List α} {i j : Nat} {x y : α} (h : (l.set i x)[j]? = some y) : (i = j ∧ x = y ∧ i < l.length) ∨ (i ≠ j ∧ l[j]? = some y) := by
  by_cases e : i = j
  · subst e
    by_cases hl : i < l.length
    · rw [List.getElem?_set_self hl] at h
      exact .inl ⟨rfl, Option.some.inj h, hl⟩
    · rw [List.getElem?_eq_none (by simpa using hl)] at h
      cases h
  · rw [List.getElem?_set_ne e] at h
    exact .inr ⟨e, h⟩
theorem SI.setVal {i : Nat} {d : D} {v : V} (s : SI TS K G_0 H_0 ρ σ G H fp) (r : Rp K G v d) : SI TS K G_0 H_0 (ρ.set i (.val d)) (σ.set i (some v)) G H fp := by
  refine ⟨s.gr, by simpa using s.len, fun j d' h => ?_, fun j o h => ?_, fun j l o u h1 h2 => ?_, fun j o h => ?_⟩
  · rcases set_at h with ⟨rfl, e, hl⟩ | ⟨ne, h⟩
    · cases e
      exact ⟨v, List.getElem?_set_self (by rw [← s.len]; exact hl), r⟩
    · rw [List.getElem?_set_ne ne]
      exact s.val j d' h
  · rcases set_at h with ⟨rfl, e, hl⟩ | ⟨ne, h⟩
    · cases e
    · rw [List.getElem?_set_ne ne]
      exact s.own j o h
  · rcases set_at h1 with ⟨_, e, _⟩ | ⟨_, h1⟩
    · cases e
    · rcases set_at h2 with ⟨_, e, _⟩ | ⟨_, h2⟩
      · cases e
      · exact s.apart j l o u h1 h2
  · rcases set_at h with ⟨_, e, _⟩ | ⟨_, h⟩
    · cases e
    · exact s.free j o h
def setFp (fp : Nat → List Addr) (i : Nat) (l : List Addr) : Nat → List Addr := fun j => if j = i then l else fp j
theorem setFp_same {i : Nat} {l : List Addr} : setFp fp i l i = l := if_pos rfl
theorem setFp_ne {i j : Nat} {l : List Addr} (h : i ≠ j) : setFp fp i l j = fp j := if_neg (Ne.symm h)
/-- a new own object -/
theorem SI.setOwn {i : Nat} {o : Own} {v : V} {l : List Addr} (s : SI TS K G_0 H_0 ρ σ G H fp) (r : RpO TS K G H l v o) (hn : ∀ a ∈ l, G a = none ∧ H_0 a = none) (hf : ∀ (j : Nat) (u : Own), ρ[j]? = some (Sl.own u) → j ≠ i → ∀ a ∈ l, a ∉ fp j) :
    SI TS K G_0 H_0 (ρ.set i (.own o)) (σ.set i (some v)) G H (setFp fp i l) := by
  refine ⟨s.gr, by simpa using s.len, fun j d' h => ?_, fun j u h => ?_, fun j m u w h1 h2 hjm => ?_, fun j u h => ?_⟩
  · rcases set_at h with ⟨rfl, e, hl⟩ | ⟨ne, h⟩
    · cases e
    · rw [List.getElem?_set_ne ne]
      exact s.val j d' h
  · rcases set_at h with ⟨rfl, e, hl⟩ | ⟨ne, h⟩
    · cases e
      exact ⟨v, List.getElem?_set_self (by rw [← s.len]; exact hl), by rw [setFp_same]; exact r⟩
    · rw [List.getElem?_set_ne ne, setFp_ne ne]
      exact s.own j u h
  · rcases set_at h1 with ⟨rfl, e, _⟩ | ⟨n1, h1⟩
    · rcases set_at h2 with ⟨rfl, e, _⟩ | ⟨n2, h2⟩
      · exact absurd rfl hjm
      · rw [setFp_same, setFp_ne n2]
        exact hf m w h2 (Ne.symm n2)
    · rcases set_at h2 with ⟨rfl, e, _⟩ | ⟨n2, h2⟩
      · rw [setFp_same, setFp_ne n1]
        exact fun a ha hb => hf j u h1 (Ne.symm n1) a hb ha
      · rw [setFp_ne n1, setFp_ne n2]
        exact s.apart j m u w h1 h2 hjm
  · rcases set_at h with ⟨rfl, e, _⟩ | ⟨ne, h⟩
    · rw [setFp_same]
      exact hn
    · rw [setFp_ne ne]
      exact s.free j u h
/-- an own list changed in place -/
theorem SI.change {i : Nat} {ds ds' : List D} {a : Addr} {vs' : List V} (s : SI TS K G_0 H_0 ρ σ G H fp) (hi : ρ[i]? = some (Sl.own (.lst ds))) (ha : σ[i]? = some (some (.ref a))) (r : Rps K G vs' ds') :
    SI TS K G_0 H_0 (ρ.set i (.own (.lst ds'))) σ G (upd H a (.lst vs')) fp := by
  have hil : i < ρ.length := (List.getElem?_eq_some_iff.mp hi).1
  obtain ⟨v, hv, ro⟩ := s.own i _ hi
  rw [ha] at hv
  cases hv
  have hfp : fp i = [a] := by
    generalize hq : fp i = q at ro
    cases ro
    rfl
  have ham : a ∈ fp i := by rw [hfp]; simp
  obtain ⟨u, hu, hub⟩ := ro.there a ham
  obtain ⟨z1, z2⟩ := s.free i _ hi a ham
  have hs : σ.set i (some (.ref a)) = σ := by
    have hl : i < σ.length := by rw [← s.len]; exact hil
    have : σ[i] = some (.ref a) := by
      rw [List.getElem?_eq_getElem hl] at ha
      exact Option.some.inj ha
    rw [← this]
    exact List.set_getElem_self hl
  have keepO : ∀ b w, b ≠ a → H b = some w → upd H a (.lst vs') b = some w := fun b w n h => by rw [upd_ne n]; exact h
  have gr : Gr TS G_0 H_0 G (upd H a (.lst vs')) := by
    refine ⟨s.gr.g, ⟨fun b w h n => keepO b w (ne_of_none h z2) (s.gr.h.same b w h n), fun b h => s.gr.h.old b (upd_none h)⟩, s.gr.nw, ⟨fun b w h => keepO b w (ne_of_none h z1) (s.gr.ok.le b w h), fun P hP => ?_, s.gr.ok.nt⟩⟩
    obtain ⟨ps, h1, h2⟩ := s.gr.ok.tb P hP
    refine ⟨ps, keepO P _ (fun e => ?_) h1, h2⟩
    rw [e, hu] at h1
    cases h1
    cases hub
  refine ⟨gr, by simpa using s.len, fun j d' h => ?_, fun j w h => ?_, fun j m w1 w2 h1 h2 hjm => ?_, fun j w h => ?_⟩
  · rcases set_at h with ⟨rfl, e, hl⟩ | ⟨ne, h⟩
    · cases e
    · exact s.val j d' h
  · rcases set_at h with ⟨rfl, e, hl⟩ | ⟨ne, h⟩
    · cases e
      exact ⟨_, ha, by rw [hfp]; exact .lst upd_same r⟩
    · obtain ⟨v2, h1, h2⟩ := s.own j w h
      refine ⟨v2, h1, h2.keep (Ex.refl G) fun b hb w2 hw _ => keepO b w2 (fun e => ?_) hw⟩
      subst e
      exact s.apart i j _ _ hi h ne _ ham hb
  · have old : ∀ {k : Nat} {w : Own}, (ρ.set i (.own (.lst ds')))[k]? = some (Sl.own w) → ∃ w', ρ[k]? = some (Sl.own w') := fun {k w} h => by
      rcases set_at h with ⟨rfl, e, _⟩ | ⟨_, h⟩
      · exact ⟨_, hi⟩
      · exact ⟨w, h⟩
    obtain ⟨w1', h1'⟩ := old h1
    obtain ⟨w2', h2'⟩ := old h2
    exact s.apart j m w1' w2' h1' h2' hjm
  · rcases set_at h with ⟨rfl, e, _⟩ | ⟨_, h⟩
    · exact s.free i _ hi
    · exact s.free j w h
/-- an own list becomes data -/
theorem SI.freeze {i : Nat} {ds : List D} (s : SI TS K G_0 H_0 ρ σ G H fp) (hi : ρ[i]? = some (Sl.own (.lst ds))) : ∃ G1, Ex G G1 ∧ SI TS K G_0 H_0 (ρ.set i (.val (.list ds))) σ G1 H fp := by
  have hil : i < ρ.length := (List.getElem?_eq_some_iff.mp hi).1
  obtain ⟨v, hv, ro⟩ := s.own i _ hi
  generalize hq : fp i = q at ro
  cases ro with
  | @lst a vs _ h1 r =>
    have ham : a ∈ fp i := by rw [hq]; simp
    obtain ⟨z1, z2⟩ := s.free i _ hi a ham
    obtain ⟨e1, e2⟩ := Gr.count s.gr.ok z1 h1
    have s2 : SI TS K G_0 H_0 (ρ.set i (.val (.list ds))) (σ.set i (some (.ref a))) (upd G a (.lst vs)) H fp := by
      refine ⟨⟨s.gr.g.trans e1, s.gr.h, fun b h => ?_, e2⟩, by simpa using s.len, fun j d' h => ?_, fun j w h => ?_, fun j m w1 w2 h1 h2 hjm => ?_, fun j w h b hb => ?_⟩
      · by_cases z : b = a
        · subst z
          exact .inr z2
        · rw [upd_ne z] at h
          exact s.gr.nw b h
      · rcases set_at h with ⟨rfl, e, hl⟩ | ⟨ne, h⟩
        · cases e
          exact ⟨_, List.getElem?_set_self (by rw [← s.len]; exact hl), .lst (.inl (.inl upd_same)) (r.mono e1)⟩
        · obtain ⟨v2, q1, q2⟩ := s.val j d' h
          rw [List.getElem?_set_ne ne]
          exact ⟨v2, q1, q2.mono e1⟩
      · rcases set_at h with ⟨rfl, e, hl⟩ | ⟨ne, h⟩
        · cases e
        · obtain ⟨v2, q1, q2⟩ := s.own j w h
          rw [List.getElem?_set_ne ne]
          exact ⟨v2, q1, q2.keep e1 fun _ _ _ h _ => h⟩
      · rcases set_at h1 with ⟨_, e, _⟩ | ⟨_, h1⟩
        · cases e
        · rcases set_at h2 with ⟨_, e, _⟩ | ⟨_, h2⟩
          · cases e
          · exact s.apart j m w1 w2 h1 h2 hjm
      · rcases set_at h with ⟨_, e, _⟩ | ⟨ne, h⟩
        · cases e
        · obtain ⟨q1, q2⟩ := s.free j w h b hb
          refine ⟨?_, q2⟩
          rw [upd_ne fun e => ?_]
          · exact q1
          · subst e
            exact s.apart i j _ _ hi h ne _ ham hb
    have hs : σ.set i (some (.ref a)) = σ := by
      have hl : i < σ.length := by rw [← s.len]; exact hil
      have : σ[i] = some (.ref a) := by
        rw [List.getElem?_eq_getElem hl] at hv
        exact Option.some.inj hv
      rw [← this]
      exact List.set_getElem_self hl
    rw [hs] at s2
    exact ⟨_, e1, s2⟩
end
end Pyr

set_option Elab.async false
set_option autoImplicit false
set_option linter.all false
set_option maxRecDepth 100000
set_option maxHeartbeats 1000000
namespace Pyr
open PySem PySem.Spec PyProof.Rows L2 Evl

inductive Fl where
  | next (ρ : Frm)
  | ret (r : RV)
  | brk (ρ : Frm)
  | cont (ρ : Frm)
def PostS (TS : TabList) (X : Cx) (W : WX) (G_0 H_0 Gs : Hp) (D : Ends) : Res Fl → Prop
  | .ok (.next ρ) => ∀ (σ : L2.St) (G H : Hp) (fp : Nat → List Addr), Ex Gs G → SI TS X.K G_0 H_0 ρ σ G H fp → D.nx σ H
  | .ok (.brk ρ) => ∀ (σ : L2.St) (G H : Hp) (fp : Nat → List Addr), Ex Gs G → SI TS X.K G_0 H_0 ρ σ G H fp → D.bk σ H
  | .ok (.cont ρ) => ∀ (σ : L2.St) (G H : Hp) (fp : Nat → List Addr), Ex Gs G → SI TS X.K G_0 H_0 ρ σ G H fp → D.ct σ H
  | .ok (.ret (.val d)) => ∀ (v : V) (G H : Hp), Gr TS G_0 H_0 G H → Rp X.K G v d → D.rt v H
  | .ok (.ret (.own ds)) => ∀ (v : V) (G H : Hp), Gr TS G_0 H_0 G H → RelL X.K H_0 G H v ds → D.rt v H
  | .exc c fs => ∀ (C : Addr) (d : Option Addr) (σ : L2.St) (G H : Hp), X.mg c = some (.ref C) → Gr TS G_0 H_0 G H → ExcRep X.K G H d fs → W (.ref C) d σ H
  | .bad => False
theorem PostS.shift {TS : TabList} {X : Cx} {W : WX} {G_0 H_0 G G' : Hp} {D : Ends} {r : Res Fl} (e : Ex G G') (p : PostS TS X W G_0 H_0 G D r) : PostS TS X W G_0 H_0 G' D r := by
  cases r with
  | ok fl =>
    cases fl with
    | next ρ => exact fun σ G1 H fp e1 s => p σ G1 H fp (e.trans e1) s
    | brk ρ => exact fun σ G1 H fp e1 s => p σ G1 H fp (e.trans e1) s
    | cont ρ => exact fun σ G1 H fp e1 s => p σ G1 H fp (e.trans e1) s
    | ret r =>
      cases r with
      | val d => exact p
      | own ds => exact p
  | exc c fs => exact p
  | bad => exact p
def wpSt (X : Cx) (st : Stmt) : TS := fun D σ H => ∀ (pins : List (Addr × Obj)) (s : Shared), Inv X pins σ H s → wpAny (model X.prog X.w) X.A (exec st X.env) (SP X pins D) X.xe s
theorem ps_wp (X : Cx) (st : Stmt) : PS X st (wpSt X st) := ⟨fun pins s _ _ _ I h => h pins s I⟩
theorem wpSt_of {X : Cx} {st : Stmt} {t : TS} {D : Ends} {σ : L2.St} {H : Hp} (h : PS X st t) (q : t D σ H) : wpSt X st D σ H := fun pins s I => h.run pins s σ H D I q
def wpSs (X : Cx) (st : List Stmt) : TS := fun D σ H => ∀ (pins : List (Addr × Obj)) (s : Shared), Inv X pins σ H s → wpAny (model X.prog X.w) X.A (execs st X.env) (SP X pins D) X.xe s
theorem pss_wp (X : Cx) (st : List Stmt) : PSs X st (wpSs X st) := ⟨fun pins s _ _ _ I h => h pins s I⟩
theorem wpSs_of {X : Cx} {st : List Stmt} {t : TS} {D : Ends} {σ : L2.St} {H : Hp} (h : PSs X st t) (q : t D σ H) : wpSs X st D σ H := fun pins s I => h.run pins s σ H D I q
structure DSt (TS : TabList) (X : Cx) (st : Stmt) (F : Frm → Res Fl) : Prop where
  run : ∀ (W : WX) (ρ : Frm) (σ : L2.St) (G_0 H_0 G H : Hp) (fp : Nat → List Addr) (D : Ends), Takes X W → SI TS X.K G_0 H_0 ρ σ G H fp → PostS TS X W G_0 H_0 G D (F ρ) → wpSt X st D σ H
instance {TS : TabList} {X : Cx} {st : Stmt} {F : Frm → Res Fl} : CoeFun (DSt TS X st F) fun _ => ∀ (W : WX) (ρ : Frm) (σ : L2.St) (G_0 H_0 G H : Hp) (fp : Nat → List Addr) (D : Ends), Takes X W → SI TS X.K G_0 H_0 ρ σ G H fp → PostS TS X W G_0 H_0 G D (F ρ) → wpSt X st D σ H := ⟨DSt.run⟩
structure DSs (TS : TabList) (X : Cx) (st : List Stmt) (F : Frm → Res Fl) : Prop where
  run : ∀ (W : WX) (ρ : Frm) (σ : L2.St) (G_0 H_0 G H : Hp) (fp : Nat → List Addr) (D : Ends), Takes X W → SI TS X.K G_0 H_0 ρ σ G H fp → PostS TS X W G_0 H_0 G D (F ρ) → wpSs X st D σ H
instance {TS : TabList} {X : Cx} {st : List Stmt} {F : Frm → Res Fl} : CoeFun (DSs TS X st F) fun _ => ∀ (W : WX) (ρ : Frm) (σ : L2.St) (G_0 H_0 G H : Hp) (fp : Nat → List Addr) (D : Ends), Takes X W → SI TS X.K G_0 H_0 ρ σ G H fp → PostS TS X W G_0 H_0 G D (F ρ) → wpSs X st D σ H := ⟨DSs.run⟩

/-! ### the functions of statements -/
def sNext : Frm → Res Fl := fun ρ => .ok (.next ρ)
def sSeq (F1 F2 : Frm → Res Fl) : Frm → Res Fl := fun ρ => (F1 ρ).bind fun fl => match fl with
  | .next ρ' => F2 ρ'
  | fl => .ok fl
/-- exceptions with fields are not told of where own objects were read -/
def bare {α : Type} : Res α → Res α
  | .exc _ (_ :: _) => .bad
  | r => r
def evP (fe : En → Res D) (ρ : Frm) : Res D := match fe (purE ρ) with
  | .bad => (bare (fe (frzE ρ))).bind fun d => if flat0 d then .ok d else .bad
  | r => r
def evL (fe : En → Res (List D)) (ρ : Frm) : Res (List D) := match fe (purE ρ) with
  | .bad => (bare (fe (frzE ρ))).bind fun ds => if ds.all flat0 then .ok ds else .bad
  | r => r
def evT (ft : En → Res Bool) (ρ : Frm) : Res Bool := bare (ft (frzE ρ))
def sIf (ft : En → Res Bool) (F1 F2 : Frm → Res Fl) : Frm → Res Fl := fun ρ => (evT ft ρ).bind fun b => if b then F1 ρ else F2 ρ
def sSet (i : Nat) (fe : En → Res D) : Frm → Res Fl := fun ρ => (evP fe ρ).bind fun d => .ok (.next (ρ.set i (.val d)))
def sSetL (i : Nat) (fe : En → Res (List D)) : Frm → Res Fl := fun ρ => (evL fe ρ).bind fun ds => .ok (.next (ρ.set i (.own (.lst ds))))
def sRet (fe : En → Res D) : Frm → Res Fl := fun ρ => (evP fe ρ).bind fun d => .ok (.ret (.val d))
def sRetL (fe : En → Res (List D)) : Frm → Res Fl := fun ρ => (evL fe ρ).bind fun ds => .ok (.ret (.own ds))
def sRetN : Frm → Res Fl := fun _ => .ok (.ret (.val .none))
def sRetO (i : Nat) : Frm → Res Fl := fun ρ => match ρ[i]? with
  | some (Sl.own (.lst ds)) => .ok (.ret (.own ds))
  | _ => .bad
def sDrop (fe : En → Res D) : Frm → Res Fl := fun ρ => (evP fe ρ).bind fun _ => .ok (.next ρ)
def sApp (i : Nat) (fe : En → Res D) : Frm → Res Fl := fun ρ => match ρ[i]? with
  | some (Sl.own (.lst ds)) => (evP fe ρ).bind fun d => okL (ds.length + 1) (.ok (.next (ρ.set i (.own (.lst (ds ++ [d]))))))
  | _ => .bad
def sPut (i : Nat) (fj fe : En → Res D) : Frm → Res Fl := fun ρ => match ρ[i]? with
  | some (Sl.own (.lst ds)) => (evP fe ρ).bind fun d => (evP fj ρ).bind fun j => match j with
    | .int k => match ixN ds.length k with
      | some n => .ok (.next (ρ.set i (.own (.lst (ds.set n d)))))
      | none => .bad
    | _ => .bad
  | _ => .bad
def sAug (i : Nat) (fe : En → Res D) : Frm → Res Fl := fun ρ => match ρ[i]? with
  | some (Sl.val (.int a)) => (evP fe ρ).bind fun d => match d with
    | .int b => .ok (.next (ρ.set i (.val (.int (a + b)))))
    | _ => .bad
  | _ => .bad
def sFrz (i : Nat) (F : Frm → Res Fl) : Frm → Res Fl := fun ρ => match ρ[i]? with
  | some (Sl.own (.lst ds)) => F (ρ.set i (.val (.list ds)))
  | _ => F ρ

section
variable {TS : TabList} {X : Cx} {W : WX} {a e c : Expr} {fe fj : En → Res D} {fl : En → Res (List D)} {ft : En → Res Bool} {F F1 F2 : Frm → Res Fl} {st : Stmt} {rest b1 b2 : List Stmt} {pos : Pos}
variable {G_0 H_0 G H G1 H1 : Hp} {ρ : Frm} {σ : L2.St} {fp : Nat → List Addr} {D : Ends}
theorem gr_noTb (k : Ok0 TS G H) (g : Gr TS (noTb H) H G1 H1) : Gr TS G H G H1 := ⟨Ex.refl G, g.h, fun _ h => .inl h, ⟨((ex_noTb k).trans g.g).trans g.ok.le, g.ok.tb, k.nt⟩⟩
theorem flat_any {K : PySem.W.Frag} {v : V} {d : Pyr.D} (h : flat0 d = true) (r : Rp K G v d) : Rp K G1 v d := by
  cases r with
  | non => exact .non
  | bl b => exact .bl b
  | int i => exact .int i
  | str x => exact .str x
  | _ => cases h
theorem flats_any {K : PySem.W.Frag} : ∀ {vs : List V} {ds : List Pyr.D}, ds.all flat0 = true → Rps K G vs ds → Rps K G1 vs ds
  | _, _, _, .nil => .nil
  | _, _, h, .cons r rs => by
    rw [List.all_cons, Bool.and_eq_true] at h
    exact .cons (flat_any h.1 r) (flats_any h.2 rs)
/-- what is wanted of an exception that an expression of this frame lets out -/
theorem postX_of {c : Str} {fs : List (Str × Pyr.D)} (s : SI TS X.K G_0 H_0 ρ σ G H fp) (p : PostS TS X W G_0 H_0 G D (.exc c fs)) : PostX TS X W σ G H c fs :=
  fun C d G' H' m g r => p C d σ G' H' m (s.gr.trans g) r
theorem postX_frz {c : Str} {fs : List (Str × Pyr.D)} (s : SI TS X.K G_0 H_0 ρ σ G H fp) (p : PostS TS X W G_0 H_0 G D (.exc c fs)) (hf : fs = []) : PostX TS X W σ (noTb H) H c fs := by
  subst hf
  exact fun C d G' H' m g r => p C d σ G H' m (s.gr.trans (gr_noTb s.gr.ok g)) r
theorem evP_run {k : Pyr.D → Res Fl} {R : VK} (he : DE TS X e fe) (tk : Takes X W) (s : SI TS X.K G_0 H_0 ρ σ G H fp) (p : PostS TS X W G_0 H_0 G D ((evP fe ρ).bind k))
    (next : ∀ (v : V) (d : Pyr.D) (G1 H1 : Hp), Gr TS G H G1 H1 → Rp X.K G1 v d → PostS TS X W G_0 H_0 G D (k d) → R v H1) : wpE X e σ H R := by
  cases h1 : fe (purE ρ) with
  | ok d =>
    have e1 : evP fe ρ = .ok d := by unfold evP; rw [h1]
    rw [e1] at p
    refine he W (purE ρ) σ G H R tk s.pure s.gr.ok ?_
    rw [h1]
    exact fun v G1 H1 g r => next v d G1 H1 g r p
  | exc c fs =>
    have e1 : evP fe ρ = .exc c fs := by unfold evP; rw [h1]
    rw [e1] at p
    refine he W (purE ρ) σ G H R tk s.pure s.gr.ok ?_
    rw [h1]
    exact postX_of s p
  | bad =>
    have e1 : evP fe ρ = (bare (fe (frzE ρ))).bind fun d => if flat0 d then .ok d else .bad := by unfold evP; rw [h1]
    rw [e1] at p
    refine he W (frzE ρ) σ (noTb H) H R tk s.frz (ok_noTb s.gr.ok) ?_
    cases h2 : fe (frzE ρ) with
    | ok d =>
      rw [h2] at p
      have p : PostS TS X W G_0 H_0 G D ((if flat0 d then Res.ok d else .bad).bind k) := p
      by_cases hf : flat0 d = true
      · rw [if_pos hf] at p
        exact fun v G1 H1 g r => next v d G H1 (gr_noTb s.gr.ok g) (flat_any hf r) p
      · rw [if_neg hf] at p
        exact p.elim
    | exc c fs =>
      rw [h2] at p
      cases fs with
      | nil => exact postX_frz s p rfl
      | cons _ _ => exact p.elim
    | bad =>
      rw [h2] at p
      exact p.elim
theorem evL_gen {wp : L2.St → Hp → VK → Prop} {k : List Pyr.D → Res Fl} {R : VK} (he : ∀ (W : WX) (ρ : En) (σ : L2.St) (G H : Hp) (Q : VK), Takes X W → RpE TS X.K G H ρ σ → Ok0 TS G H → PostG (RelL X.K) TS X W σ G H (fl ρ) Q → wp σ H Q) (tk : Takes X W) (s : SI TS X.K G_0 H_0 ρ σ G H fp) (p : PostS TS X W G_0 H_0 G D ((evL fl ρ).bind k))
    (next : ∀ (v : V) (ds : List Pyr.D) (G1 H1 : Hp), Gr TS G H G1 H1 → RelL X.K H G1 H1 v ds → PostS TS X W G_0 H_0 G D (k ds) → R v H1) : wp σ H R := by
  cases h1 : fl (purE ρ) with
  | ok d =>
    have e1 : evL fl ρ = .ok d := by unfold evL; rw [h1]
    rw [e1] at p
    refine he W (purE ρ) σ G H R tk s.pure s.gr.ok ?_
    rw [h1]
    exact fun v G1 H1 g r => next v d G1 H1 g r p
  | exc c fs =>
    have e1 : evL fl ρ = .exc c fs := by unfold evL; rw [h1]
    rw [e1] at p
    refine he W (purE ρ) σ G H R tk s.pure s.gr.ok ?_
    rw [h1]
    exact postX_of s p
  | bad =>
    have e1 : evL fl ρ = (bare (fl (frzE ρ))).bind fun ds => if ds.all flat0 then .ok ds else .bad := by unfold evL; rw [h1]
    rw [e1] at p
    refine he W (frzE ρ) σ (noTb H) H R tk s.frz (ok_noTb s.gr.ok) ?_
    cases h2 : fl (frzE ρ) with
    | ok ds =>
      rw [h2] at p
      have p : PostS TS X W G_0 H_0 G D ((if ds.all flat0 then Res.ok ds else .bad).bind k) := p
      by_cases hf : ds.all flat0 = true
      · rw [if_pos hf] at p
        rintro v G1 H1 g ⟨q, vs, rfl, h0, g0, hp, r⟩
        exact next _ ds G H1 (gr_noTb s.gr.ok g) ⟨q, vs, rfl, h0, fresh_back s.gr.ok.le h0, hp, flats_any hf r⟩ p
      · rw [if_neg hf] at p
        exact p.elim
    | exc c fs =>
      rw [h2] at p
      cases fs with
      | nil => exact postX_frz s p rfl
      | cons _ _ => exact p.elim
    | bad =>
      rw [h2] at p
      exact p.elim
theorem evL_run {k : List Pyr.D → Res Fl} {R : VK} (he : DL TS X e fl) (tk : Takes X W) (s : SI TS X.K G_0 H_0 ρ σ G H fp) (p : PostS TS X W G_0 H_0 G D ((evL fl ρ).bind k))
    (next : ∀ (v : V) (ds : List Pyr.D) (G1 H1 : Hp), Gr TS G H G1 H1 → RelL X.K H G1 H1 v ds → PostS TS X W G_0 H_0 G D (k ds) → R v H1) : wpE X e σ H R := evL_gen he tk s p next
theorem evT_run {k : Bool → Res Fl} {R : Bool → Hp → Prop} (he : DT TS X e ft) (tk : Takes X W) (s : SI TS X.K G_0 H_0 ρ σ G H fp) (p : PostS TS X W G_0 H_0 G D ((evT ft ρ).bind k))
    (next : ∀ (b : Bool) (H1 : Hp), Gr TS G H G H1 → PostS TS X W G_0 H_0 G D (k b) → R b H1) : wpT X e σ H R := by
  unfold evT at p
  refine he W (frzE ρ) σ (noTb H) H R tk s.frz (ok_noTb s.gr.ok) ?_
  cases h2 : ft (frzE ρ) with
  | ok b =>
    rw [h2] at p
    intro v G1 H1 g r
    subst r
    exact next v H1 (gr_noTb s.gr.ok g) p
  | exc c fs =>
    rw [h2] at p
    cases fs with
    | nil => exact postX_frz s p rfl
    | cons _ _ => exact p.elim
  | bad =>
    rw [h2] at p
    exact p.elim

theorem dss_nil : DSs TS X [] sNext := .mk fun W ρ σ G_0 H_0 G H fp D tk s p => wpSs_of pss_nil (p σ G H fp (Ex.refl G) s)
theorem dss_cons (h1 : DSt TS X st F1) (h2 : DSs TS X rest F2) : DSs TS X (st :: rest) (sSeq F1 F2) := by
  refine ⟨?_⟩
  intro W ρ σ G_0 H_0 G H fp D tk s p
  refine wpSs_of (pss_cons (ps_wp X st) (pss_wp X rest)) ?_
  refine h1 W ρ σ G_0 H_0 G H fp { D with nx := wpSs X rest D } tk s ?_
  unfold sSeq at p
  cases hf : F1 ρ with
  | ok fl =>
    rw [hf] at p
    cases fl with
    | next ρ' => exact fun σ' G' H' fp' e s' => h2 W ρ' σ' G_0 H_0 G' H' fp' D tk s' (p.shift e)
    | ret r =>
      cases r with
      | val d => exact p
      | own ds => exact p
    | brk ρ' => exact p
    | cont ρ' => exact p
  | exc c fs =>
    rw [hf] at p
    exact p
  | bad =>
    rw [hf] at p
    exact p
theorem dss_one (h1 : DSt TS X st F1) : DSs TS X [st] F1 := .mk fun W ρ σ G_0 H_0 G H fp D tk s p => wpSs_of (pss_one (ps_wp X st)) (h1 W ρ σ G_0 H_0 G H fp D tk s p)
theorem dss_frz {i : Nat} (h : DSs TS X rest F) : DSs TS X rest (sFrz i F) := by
  refine ⟨?_⟩
  intro W ρ σ G_0 H_0 G H fp D tk s p
  unfold sFrz at p
  split at p
  · rename_i ds hi
    obtain ⟨G1, e, s1⟩ := s.freeze hi
    exact h W _ σ G_0 H_0 G1 H fp D tk s1 (p.shift e)
  · exact h W ρ σ G_0 H_0 G H fp D tk s p
theorem ds_pass : DSt TS X (.Pass pos) sNext := .mk fun W ρ σ G_0 H_0 G H fp D tk s p => wpSt_of ps_pass (p σ G H fp (Ex.refl G) s)
theorem ds_doc {x : Str} {j : Nat} {pos' : Pos} : DSt TS X (.Expr (.Constant (.str x) j pos) pos') sNext := .mk fun W ρ σ G_0 H_0 G H fp D tk s p => wpSt_of ps_doc (p σ G H fp (Ex.refl G) s)
theorem ds_break : DSt TS X (.Break pos) (fun ρ => .ok (.brk ρ)) := .mk fun W ρ σ G_0 H_0 G H fp D tk s p => wpSt_of ps_break (p σ G H fp (Ex.refl G) s)
theorem ds_continue : DSt TS X (.Continue pos) (fun ρ => .ok (.cont ρ)) := .mk fun W ρ σ G_0 H_0 G H fp D tk s p => wpSt_of ps_continue (p σ G H fp (Ex.refl G) s)
theorem ds_if (hc : DT TS X c ft) (h1 : DSs TS X b1 F1) (h2 : DSs TS X b2 F2) : DSt TS X (.If c b1 b2 pos) (sIf ft F1 F2) := by
  refine ⟨?_⟩
  intro W ρ σ G_0 H_0 G H fp D tk s p
  refine wpSt_of (ps_if (pt_wp X c) (pss_wp X b1) (pss_wp X b2)) ?_
  refine evT_run hc tk s p fun b H1 g p => ?_
  cases b with
  | true => exact iteT (h1 W ρ σ G_0 H_0 G H1 fp D tk (s.grow g) p)
  | false => exact iteF (h2 W ρ σ G_0 H_0 G H1 fp D tk (s.grow g) p)
theorem ds_set (i : Nat) {x : Str} {pos' : Pos} (he : DE TS X e fe) (C : CtE X) (hi : X.N[i]? = some x := by rfl) (hx : Loc X.env.scope x := by first | exact Or.inl rfl | exact Or.inr rfl) (hs : swapsWith e (some (.Name x pos')) pos.line X.env = pure false := by rfl) (hf : X.fn x = true ∨ X.env.scope.names.lookup x = some .local := by first | exact .inl rfl | exact .inr rfl) :
    DSt TS X (.Assign [.Name x pos'] e pos) (sSet i fe) := by
  refine ⟨?_⟩
  intro W ρ σ G_0 H_0 G H fp D tk s p
  refine wpSt_of (ps_set C.nd hi hx (pe_wp X e) hs hf) ?_
  exact evP_run he tk s p fun v d G1 H1 g r p => p _ G1 H1 fp g.g ((s.grow g).setVal r)
theorem SI.storeL {i : Nat} {v : V} {ds : List Pyr.D} (s : SI TS X.K G_0 H_0 ρ σ G H fp) (g : Gr TS G H G1 H1) (r : RelL X.K H G1 H1 v ds) : ∃ fp', SI TS X.K G_0 H_0 (ρ.set i (.own (.lst ds))) (σ.set i (some v)) G1 H1 fp' := by
  obtain ⟨q, vs, rfl, h0, g0, hp, r⟩ := r
  refine ⟨_, (s.grow g).setOwn (.lst hp r) (fun a ha => ?_) fun j u hj _ a ha hb => ?_⟩
  · rw [List.mem_singleton.mp ha]
    exact ⟨g0, s.gr.h.old q h0⟩
  · rw [List.mem_singleton.mp ha] at hb
    obtain ⟨v2, _, h2⟩ := s.own j u hj
    obtain ⟨w, hw, _⟩ := h2.there q hb
    rw [h0] at hw
    cases hw
theorem ds_setL (i : Nat) {x : Str} {pos' : Pos} (he : DL TS X e fl) (C : CtE X) (hi : X.N[i]? = some x := by rfl) (hx : Loc X.env.scope x := by first | exact Or.inl rfl | exact Or.inr rfl) (hs : swapsWith e (some (.Name x pos')) pos.line X.env = pure false := by rfl) (hf : X.fn x = true ∨ X.env.scope.names.lookup x = some .local := by first | exact .inl rfl | exact .inr rfl) :
    DSt TS X (.Assign [.Name x pos'] e pos) (sSetL i fl) := by
  refine ⟨?_⟩
  intro W ρ σ G_0 H_0 G H fp D tk s p
  refine wpSt_of (ps_set C.nd hi hx (pe_wp X e) hs hf) ?_
  refine evL_run he tk s p fun v ds G1 H1 g r p => ?_
  obtain ⟨fp', s'⟩ := s.storeL (i := i) g r
  exact p _ G1 H1 fp' g.g s'
theorem ds_ret (he : DE TS X e fe) : DSt TS X (.Return (some e) pos) (sRet fe) := by
  refine ⟨?_⟩
  intro W ρ σ G_0 H_0 G H fp D tk s p
  refine wpSt_of (ps_ret (pe_wp X e)) ?_
  exact evP_run he tk s p fun v d G1 H1 g r p => p v G1 H1 (s.gr.trans g) r
theorem ds_retL (he : DL TS X e fl) : DSt TS X (.Return (some e) pos) (sRetL fl) := by
  refine ⟨?_⟩
  intro W ρ σ G_0 H_0 G H fp D tk s p
  refine wpSt_of (ps_ret (pe_wp X e)) ?_
  refine evL_run he tk s p fun v ds G1 H1 g r p => ?_
  obtain ⟨q, vs, rfl, h0, g0, hp, r⟩ := r
  exact p _ G1 H1 (s.gr.trans g) ⟨q, vs, rfl, s.gr.h.old q h0, g0, hp, r⟩
theorem ds_retN : DSt TS X (.Return none pos) sRetN := .mk fun W ρ σ G_0 H_0 G H fp D tk s p => wpSt_of ps_retN (p .non G H s.gr .non)
theorem own_at {i : Nat} {ds : List Pyr.D} (s : SI TS X.K G_0 H_0 ρ σ G H fp) (hi : ρ[i]? = some (Sl.own (.lst ds))) : ∃ q vs, σ[i]? = some (some (.ref q)) ∧ H q = some (.lst vs) ∧ Rps X.K G vs ds ∧ G q = none ∧ H_0 q = none := by
  obtain ⟨v, hv, ro⟩ := s.own i _ hi
  have hfr := s.free i _ hi
  generalize fp i = l at ro hfr
  cases ro with
  | lst h r =>
    obtain ⟨z1, z2⟩ := hfr _ (List.mem_singleton.mpr rfl)
    exact ⟨_, _, hv, h, r, z1, z2⟩
theorem ds_retO (i : Nat) {x : Str} {pos' : Pos} (hN : X.N[i]? = some x := by rfl) (hv : Vis X.env.scope x := by first | exact Or.inl rfl | exact Or.inr (Or.inl rfl) | exact Or.inr (Or.inr rfl)) (hd : (x == ("__debug__" : Str)) = false := by decide) (hcd : (x == ("__classdict__" : Str)) = false := by decide) :
    DSt TS X (.Return (some (.Name x pos')) pos) (sRetO i) := by
  refine ⟨?_⟩
  intro W ρ σ G_0 H_0 G H fp D tk s p
  refine wpSt_of (ps_ret (pe_var hN hv hd hcd)) ?_
  unfold sRetO at p
  split at p
  · rename_i ds hi
    obtain ⟨q, vs, h1, h2, r, z1, z2⟩ := own_at s hi
    exact ⟨_, h1, p _ G H s.gr ⟨q, vs, rfl, z2, z1, h2, r⟩⟩
  · exact p.elim
theorem ds_drop (he : DE TS X e fe) (hs : swapsWith e none pos.line X.env = pure false := by rfl) : DSt TS X (.Expr e pos) (sDrop fe) := by
  refine ⟨?_⟩
  intro W ρ σ G_0 H_0 G H fp D tk s p
  refine wpSt_of (ps_expr (pe_wp X e) hs) ?_
  exact evP_run he tk s p fun v d G1 H1 g r p => p σ G1 H1 fp g.g (s.grow g)
theorem ds_app (i : Nat) {x : Str} {pos' apos cpos : Pos} (he : DE TS X e fe) (hN : X.N[i]? = some x := by rfl) (hv : Vis X.env.scope x := by first | exact Or.inl rfl | exact Or.inr (Or.inl rfl) | exact Or.inr (Or.inr rfl)) (hd : (x == ("__debug__" : Str)) = false := by decide) (hcd : (x == ("__classdict__" : Str)) = false := by decide)
    (hbase : attributeBase (.Name x pos') "append" X.env (eval (.Name x pos') X.env) = eval (.Name x pos') X.env := by rfl)
    (hfew : ((backTo cpos (starEach [e] X.env)).all (fun x => !x.1) && (backToKw cpos (keywordEach [] X.env)).all (fun x => x.1.isSome)
      && decide ([e].length + ([] : List Keyword).length + (if ([] : List Keyword).isEmpty then 0 else 1) < 30)) = true := by rfl)
    (hline : (apos.endLine == cpos.line) = true := by rfl) (hs : starEach [e] X.env = (false, eval e X.env) :: starEach [] X.env := by rfl) (hplain : (backTo cpos (starEach [] X.env)).any (·.1) = false := by rfl)
    (hsw : swapsWith (.Call (.Attribute (.Name x pos') "append" apos) [e] [] cpos) none pos.line X.env = pure false := by rfl) :
    DSt TS X (.Expr (.Call (.Attribute (.Name x pos') "append" apos) [e] [] cpos) pos) (sApp i fe) := by
  refine ⟨?_⟩
  intro W ρ σ G_0 H_0 G H fp D tk s p
  refine wpSt_of (ps_expr (pe_bm PySem.F.plainAttrs_list PySem.F.slot_list_append PySem.F.type_list_append mt_append (pe_var hN hv hd hcd) (pa_cons (pe_wp X e) pa_nil hs) hbase hfew hline hs hplain) hsw) ?_
  unfold sApp at p
  split at p
  · rename_i ds hi
    obtain ⟨q, vs, h1, h2, r, z1, z2⟩ := own_at s hi
    refine ⟨_, h1, Or.inl ⟨rfl, vs, SqL.of h2⟩, ?_⟩
    refine evP_run he tk s p fun v d G1 H1 g rv p => ?_
    have hp : ds.length + 1 ≤ LIM ∧ PostS TS X W G_0 H_0 G D (.ok (.next (ρ.set i (.own (.lst (ds ++ [d])))))) := by
      unfold okL at p
      split at p
      · exact ⟨by assumption, p⟩
      · exact p.elim
    have hq : H1 q = some (.lst vs) := g.h.at h2 rfl
    refine ⟨q, vs, v, rfl, rfl, hq, ?_, ?_⟩
    · rw [r.len]
      exact Nat.lt_of_lt_of_le hp.1 (by decide)
    · exact hp.2 σ G1 _ fp g.g ((s.grow g).change hi h1 ((r.mono g.g).app (.cons rv .nil)))
  · exact p.elim
theorem ds_put (i : Nat) {x : Str} {j : Expr} {pos' spos : Pos} (he : DE TS X e fe) (hj : DE TS X j fj) (hN : X.N[i]? = some x := by rfl) (hv : Vis X.env.scope x := by first | exact Or.inl rfl | exact Or.inr (Or.inl rfl) | exact Or.inr (Or.inr rfl)) (hd : (x == ("__debug__" : Str)) = false := by decide) (hcd : (x == ("__classdict__" : Str)) = false := by decide)
    (ha : ∀ v, assign (.Subscript (.Name x pos') j spos) X.env v = (do
      let ov ← holding [v] (eval (.Name x pos') X.env)
      let iv ← holding [v, ov] (eval j X.env)
      standAt spos
      holding [v, ov, iv] (setItem ov iv v)
      release [v, ov, iv] []) := by intro _; rfl)
    (hs : swapsWithSole [.Subscript (.Name x pos') j spos] e pos.line X.env = pure false := by rfl) (hw : swappedStores [.Subscript (.Name x pos') j spos] e X.env = pure none := by rfl)
    (h1 : (assignEach [.Subscript (.Name x pos') j spos] X.env).map (·.2) = [assign (.Subscript (.Name x pos') j spos) X.env] := by rfl) :
    DSt TS X (.Assign [.Subscript (.Name x pos') j spos] e pos) (sPut i fj fe) := by
  refine ⟨?_⟩
  intro W ρ σ G_0 H_0 G H fp D tk s p
  refine wpSt_of (ps_asg (pe_wp X e) (pg_sub (pe_var hN hv hd hcd) (pe_wp X j) set_list ha) hs hw h1) ?_
  unfold sPut at p
  split at p
  · rename_i ds hi
    refine evP_run he tk s p fun v d G1 H1 g rv p => ?_
    obtain ⟨q, vs, h1, h2, r, z1, z2⟩ := own_at (s.grow g) hi
    refine ⟨_, h1, ?_⟩
    refine evP_run hj tk (s.grow g) (p.shift g.g) fun w dj G2 H2 g2 rw' p => ?_
    cases rw' with
    | int k =>
      have p : PostS TS X W G_0 H_0 G1 D (match ixN ds.length k with
        | some n => .ok (.next (ρ.set i (.own (.lst (ds.set n d)))))
        | none => .bad) := p
      cases hx : ixN ds.length k with
      | none =>
        rw [hx] at p
        exact p.elim
      | some n =>
        rw [hx] at p
        have hq : H2 q = some (.lst vs) := g2.h.at h2 rfl
        refine ⟨q, vs, k, n, rfl, rfl, hq, by rw [r.len]; exact hx, ?_⟩
        exact p σ G2 _ fp g2.g (((s.grow g).grow g2).change hi h1 ((r.mono g2.g).put (rv.mono g2.g) n))
    | _ => exact p.elim
  · exact p.elim
theorem ds_aug (i : Nat) {x : Str} {pos' : Pos} (he : DE TS X e fe) (C : CtE X) (hi : X.N[i]? = some x := by rfl) (hx : Loc X.env.scope x := by first | exact Or.inl rfl | exact Or.inr rfl) (hf : X.fn x = true ∨ X.env.scope.names.lookup x = some .local := by first | exact .inl rfl | exact .inr rfl) :
    DSt TS X (.AugAssign (.Name x pos') .Add e pos) (sAug i fe) := by
  refine ⟨?_⟩
  intro W ρ σ G_0 H_0 G H fp D tk s p
  refine wpSt_of (ps_aug C.nd hi hx (pe_wp X e) ip_add hf) ?_
  unfold sAug at p
  split at p
  · rename_i n hn
    obtain ⟨v, h1, h2⟩ := s.val i _ hn
    cases h2
    refine ⟨_, h1, ?_⟩
    refine evP_run he tk s p fun w d G1 H1 g r p => ?_
    cases r with
    | int m => exact ⟨n, m, rfl, rfl, p _ G1 H1 fp g.g ((s.grow g).setVal (.int _))⟩
    | _ => exact p.elim
  · exact p.elim
end

/-! ### a def -/
def frm0 (n : Nat) (ds : List D) : Frm := ds.map Sl.val ++ List.replicate (n - ds.length) Sl.emp
def outR : Res Fl → Res RV
  | .ok (.next _) => .ok (.val .none)
  | .ok (.ret r) => .ok r
  | .exc c fs => .exc c fs
  | _ => .bad
/-- the function of a def: np parameters, n names -/
def defM (np n : Nat) (F : Frm → Res Fl) : List D → Res RV := fun ds => if ds.length = np then outR (F (frm0 n ds)) else .bad
theorem SI.start {TS : TabList} {K : PySem.W.Frag} {G H : Hp} {vs : List V} {ds : List D} {N : List Str} (k : Ok0 TS G H) (r : Rps K G vs ds) : SI TS K G H (frm0 N.length ds) (start N vs) G H (fun _ => []) := by
  have noOwn : ∀ {i : Nat} {o : Own}, ¬ (frm0 N.length ds)[i]? = some (Sl.own o) := fun {i o} h => by
    have m := List.mem_of_getElem? h
    unfold frm0 at m
    rcases List.mem_append.mp m with m | m
    · obtain ⟨d, _, e⟩ := List.mem_map.mp m
      cases e
    · have e := (List.mem_replicate.mp m).2
      cases e
  refine ⟨Gr.refl k, by simp [frm0, L2.start, r.len], fun i d h => ?_, fun i o h => (noOwn h).elim, fun i j o u h => (noOwn h).elim, fun i o h => (noOwn h).elim⟩
  unfold frm0 at h
  by_cases hi : i < ds.length
  · rw [List.getElem?_append_left (by simpa using hi), List.getElem?_map] at h
    cases e : ds[i]? with
    | none =>
      rw [e] at h
      cases h
    | some d' =>
      rw [e] at h
      cases h
      obtain ⟨v, h1, h2⟩ := r.at e
      refine ⟨v, ?_, h2⟩
      unfold L2.start
      have hv : i < vs.length := (List.getElem?_eq_some_iff.mp h1).1
      rw [List.getElem?_append_left (by simpa using hv), List.getElem?_map, h1]
      rfl
  · rw [List.getElem?_append_right (by simpa using Nat.le_of_not_lt hi)] at h
    have e := (List.mem_replicate.mp (List.mem_of_getElem? h)).2
    cases e
theorem known_mk {TS : TabList} {P : Program} {w : World} {K : PySem.W.Frag} {mg : Str → Option Value} {base : Heap} {x qual : Str} {st : Stmt} {f : Addr} {fd : FuncData} {N ps : List Str} {k : Nat} {F : Frm → Res Fl} (Fn : L2.Fun K x qual st f fd) (S : FnScope N ps (defScope st)) (hm : mg x = some (.ref f)) (hb : Binds K fd ps [])
    (body : ∀ (cdv : Value) (A : Around) (outer : List Env) (s : Shared) (H : Hp) (E : XK), Room k (A.deeper (envOfC qual (defScope st) s.heap.objs.size f cdv)) → DSs TS (cxOf (L2.CX P w) P w K mg base N qual (defScope st) f cdv A outer s H E) (defBody st) F) :
    Known TS P w K mg base (k + 1) x ps (defM ps.length N.length F) := by
  refine ⟨f, fd, Fun.okX Fn S (fun vs H Q E h => ?_) (fun cdv A outer s H vs Q E hr h => ?_), hm, Fn.kp, hb⟩
  · obtain ⟨G, ds, r, ok, p⟩ := h
    unfold defM at p
    split at p
    · rename_i e
      rw [r.len, e]
    · exact p.elim
  · obtain ⟨G, ds, r, ok, p⟩ := h
    unfold defM at p
    split at p
    · refine ⟨_, pss_wp _ _, body cdv A outer s H E hr (fun cls d _ H => E cls d H) (frm0 N.length ds) (L2.start N vs) G H G H (fun _ => []) _ (takes_of rfl rfl rfl rfl) (SI.start ok r) ?_⟩
      cases hf : F (frm0 N.length ds) with
      | ok fl =>
        rw [hf] at p
        cases fl with
        | next ρ => exact fun σ' G' H' fp' _ s' => p .non G' H' s'.gr .non
        | ret rv =>
          cases rv with
          | val d => exact p
          | own ds => exact p
        | brk ρ => exact p.elim
        | cont ρ => exact p.elim
      | exc c fs =>
        rw [hf] at p
        exact fun C d _ G' H' m g r => p C d G' H' m g r
      | bad =>
        rw [hf] at p
        exact p.elim
    · exact p.elim
theorem room_ct {k : Nat} {A : Around} (h : Room k A) : A.units + 65 < cLine := by have := h.un; omega
end Pyr

set_option Elab.async false
set_option autoImplicit false
set_option linter.all false
set_option maxRecDepth 100000
set_option maxHeartbeats 1000000
namespace Pyr
open PySem PySem.Spec PyProof.Rows L2 Evl

/-! ### what is walked -/
def Walker (TS : TabList) (K : PySem.W.Frag) (J : It) (ds : List D) (G : Hp) : Prop := ∀ (G1 H : Hp), Ex G G1 → Ok0 TS G1 H →
  (∀ (i : Nat) (x : D), ds[i]? = some x → J.go i H ∧ ∀ v H', J.yld i H v H' → ∃ G', Gr TS G1 H G' H' ∧ Rp K G' v x) ∧ J.stop ds.length H
abbrev RelJ' (TS : TabList) (K : PySem.W.Frag) : Hp → Hp → Hp → It → List D → Prop := fun _ G' _ J ds => Walker TS K J ds G'
theorem back_J {TS : TabList} {K : PySem.W.Frag} : Back (RelJ' TS K) := fun _ _ _ _ _ _ _ h => h
def wpIt (X : Cx) (tg iter : Expr) : TI := fun σ H R => ∀ (pins : List (Addr × Obj)) (s : Shared), Inv X pins σ H s → wpAny (model X.prog X.w) X.A (eval iter X.env) (fun v s1 => wpAny (model X.prog X.w) X.A (pyIter v) (PIE X pins σ tg R) X.xe s1) X.xe s
theorem pi_wp (X : Cx) (tg iter : Expr) : PI X tg iter (wpIt X tg iter) := ⟨fun pins s _ _ _ I h => h pins s I⟩
theorem wpIt_of {X : Cx} {tg iter : Expr} {t : TI} {σ : L2.St} {H : Hp} {R : It → Hp → Prop} (h : PI X tg iter t) (q : t σ H R) : wpIt X tg iter σ H R := fun pins s I => h.run pins s σ H R I q
structure DI (TS : TabList) (X : Cx) (tg iter : Expr) (f : En → Res (List D)) : Prop where
  run : ∀ (W : WX) (ρ : En) (σ : L2.St) (G H : Hp) (R : It → Hp → Prop), Takes X W → RpE TS X.K G H ρ σ → Ok0 TS G H → PostG (RelJ' TS X.K) TS X W σ G H (f ρ) R → wpIt X tg iter σ H R
instance {TS : TabList} {X : Cx} {tg iter : Expr} {f : En → Res (List D)} : CoeFun (DI TS X tg iter f) fun _ => ∀ (W : WX) (ρ : En) (σ : L2.St) (G H : Hp) (R : It → Hp → Prop), Takes X W → RpE TS X.K G H ρ σ → Ok0 TS G H → PostG (RelJ' TS X.K) TS X W σ G H (f ρ) R → wpIt X tg iter σ H R := ⟨DI.run⟩
def signsD (x : Str) : List D := x.cps.toList.map fun c => .str ⟨#[c]⟩
def walkD : D → Res (List D)
  | .list ds => .ok ds
  | .tuple ds => .ok ds
  | .str x => .ok (signsD x)
  | _ => .bad
def iF (g : D → Res (List D)) (fa : En → Res D) : En → Res (List D) := fun ρ => (fa ρ).bind g
section
variable {TS : TabList} {X : Cx} {tg a b : Expr} {fa fb : En → Res D} {es : List Expr} {fr : En → Res (List D)} {pos : Pos}
theorem walker_list {q : Addr} {xs : List V} {ds : List D} {G : Hp} (h : SqL X.K G q xs) (r : Rps X.K G xs ds) : Walker TS X.K (Itl X.K q) ds G := by
  intro G1 H e ok
  have h1 : SqL X.K H q xs := ex_l (e.trans ok.le) h
  refine ⟨fun i x hx => ?_, ⟨xs, h1, by rw [r.len]; exact Nat.le_refl _⟩⟩
  obtain ⟨v, hv, rv⟩ := r.at hx
  refine ⟨⟨xs, v, h1, hv⟩, fun v' H' y => ?_⟩
  obtain ⟨rfl, y⟩ := y
  have e2 : some v' = some v := (y xs h1).symm.trans hv
  cases e2
  exact ⟨G1, Gr.refl ok, rv.mono e⟩
theorem walker_tup {q : Addr} {xs : List V} {ds : List D} {G : Hp} (h : SqT X.K G q xs) (r : Rps X.K G xs ds) : Walker TS X.K (Itt X.K q) ds G := by
  intro G1 H e ok
  have h1 : SqT X.K H q xs := ex_t (e.trans ok.le) h
  refine ⟨fun i x hx => ?_, ⟨xs, h1, by rw [r.len]; exact Nat.le_refl _⟩⟩
  obtain ⟨v, hv, rv⟩ := r.at hx
  refine ⟨⟨xs, v, h1, hv⟩, fun v' H' y => ?_⟩
  obtain ⟨rfl, y⟩ := y
  have e2 : some v' = some v := (y xs h1).symm.trans hv
  cases e2
  exact ⟨G1, Gr.refl ok, rv.mono e⟩
theorem walker_str {x : Str} {G : Hp} : Walker TS X.K (Its x) (signsD x) G := by
  intro G1 H e ok
  have hs : (signsD x).length = x.cps.size := by unfold signsD; simp
  refine ⟨fun i d hd => ?_, by rw [hs]; exact Nat.le_refl _⟩
  have hi : i < x.cps.size := by rw [← hs]; exact (List.getElem?_eq_some_iff.mp hd).1
  refine ⟨hi, fun v' H' y => ?_⟩
  obtain ⟨rfl, c, hc, rfl⟩ := y
  unfold signsD at hd
  rw [List.getElem?_map, Array.getElem?_toList, hc] at hd
  cases hd
  exact ⟨G1, Gr.refl ok, .str _⟩
/-- a list, a tuple, a text -/
theorem di_any (ha : DE TS X a fa) : DI TS X tg a (iF walkD fa) := by
  refine ⟨?_⟩
  intro W ρ σ G H R tk re ok post
  have main : ∀ {t : TE → TI} (_ : ∀ {te : TE}, PE X a te → PI X tg a (t te)), (∀ (d : D) (ds : List D), fa ρ = .ok d → walkD d = .ok ds → True) → True := fun _ _ => trivial
  cases hf : fa ρ with
  | ok d =>
    have post : PostG (RelJ' TS X.K) TS X W σ G H ((fa ρ).bind walkD) R := post
    cases d with
    | list ds =>
      refine wpIt_of (pi_list (pe_wp X a)) ?_
      refine bindP (wp := fun R => wpE X a σ H R) back_J (fun Q' p => ha W ρ σ G H Q' tk re ok p) post fun v x G1 H1 hx g1 rx p => ?_
      rw [hf] at hx
      cases hx
      obtain ⟨q, xs, rfl, hq, r⟩ := rx.list_inv
      exact ⟨q, rfl, ⟨xs, ex_l g1.ok.le hq⟩, p _ G1 H1 (Gr.refl g1.ok) (walker_list hq r)⟩
    | tuple ds =>
      refine wpIt_of (pi_tup (pe_wp X a)) ?_
      refine bindP (wp := fun R => wpE X a σ H R) back_J (fun Q' p => ha W ρ σ G H Q' tk re ok p) post fun v x G1 H1 hx g1 rx p => ?_
      rw [hf] at hx
      cases hx
      obtain ⟨q, xs, rfl, hq, r⟩ := rx.tup_inv
      exact ⟨q, rfl, ⟨xs, ex_t g1.ok.le hq⟩, p _ G1 H1 (Gr.refl g1.ok) (walker_tup hq r)⟩
    | str z =>
      refine wpIt_of (pi_str (pe_wp X a)) ?_
      refine bindP (wp := fun R => wpE X a σ H R) back_J (fun Q' p => ha W ρ σ G H Q' tk re ok p) post fun v x G1 H1 hx g1 rx p => ?_
      rw [hf] at hx
      cases hx
      cases rx
      exact ⟨z, rfl, p _ G1 H1 (Gr.refl g1.ok) walker_str⟩
    | _ =>
      rw [hf] at post
      exact post.elim
  | exc c fs =>
    have post : PostG (RelJ' TS X.K) TS X W σ G H ((fa ρ).bind walkD) R := post
    rw [hf] at post
    refine wpIt_of (pi_list (pe_wp X a)) (ha W ρ σ G H _ tk re ok ?_)
    rw [hf]
    exact post
  | bad =>
    have post : PostG (RelJ' TS X.K) TS X W σ G H ((fa ρ).bind walkD) R := post
    rw [hf] at post
    exact post.elim
/-- lo, lo + 1, .. -/
def upto (lo : Int) : Nat → List D
  | 0 => []
  | n + 1 => .int lo :: upto (lo + 1) n
theorem upto_len : ∀ (n : Nat) (lo : Int), (upto lo n).length = n
  | 0, _ => rfl
  | n + 1, lo => by show (upto (lo + 1) n).length + 1 = n + 1; rw [upto_len n]
theorem upto_at : ∀ (n : Nat) (lo : Int) (i : Nat) (d : D), (upto lo n)[i]? = some d → d = .int (lo + i)
  | 0, _, _, _, h => by simp [upto] at h
  | n + 1, lo, 0, d, h => by
    have e : some (PyData.int lo) = some d := h
    cases e
    simp
  | n + 1, lo, i + 1, d, h => by
    rw [upto_at n (lo + 1) i d h]
    congr 1
    omega
theorem walker_range {lo : Int} {n : Nat} {G : Hp} : Walker TS X.K (Itr lo n) (upto lo n) G := by
  intro G1 H e ok
  refine ⟨fun i d hd => ?_, by rw [upto_len]; exact Nat.le_refl _⟩
  have hi : i < n := by rw [← upto_len n lo]; exact (List.getElem?_eq_some_iff.mp hd).1
  refine ⟨hi, fun v' H' y => ?_⟩
  obtain ⟨rfl, rfl⟩ := y
  rw [upto_at n lo i d hd]
  exact ⟨G1, Gr.refl ok, .int _⟩
def r1D : D → Res (List D)
  | .int n => if -(2 ^ 62) ≤ n ∧ n < 2 ^ 62 then .ok (upto 0 n.toNat) else .bad
  | _ => .bad
def r2D : D → D → Res (List D)
  | .int m, .int n => if -(2 ^ 62) ≤ m ∧ m < 2 ^ 62 ∧ -(2 ^ 62) ≤ n ∧ n < 2 ^ 62 then .ok (upto m (n - m).toNat) else .bad
  | _, _ => .bad
def iF2 (g : D → D → Res (List D)) (fa fb : En → Res D) : En → Res (List D) := fun ρ => (fa ρ).bind fun x => (fb ρ).bind fun y => g x y
theorem di_range1 {p : Pos} (hg : Gl X "range") (hm : X.mg "range" = none) (ha : DE TS X a fa) (hs : starEach [a] X.env = [(false, eval a X.env)] := by rfl) : DI TS X tg (.Call (.Name "range" p) [a] [] pos) (iF r1D fa) := by
  refine ⟨?_⟩
  intro W ρ σ G H R tk re ok post
  refine wpIt_of (pi_range1 hg hm (pa_cons (pe_wp X a) pa_nil hs) hs) ?_
  refine bindP (wp := fun R => wpE X a σ H R) back_J (fun Q' p => ha W ρ σ G H Q' tk re ok p) post fun v x G1 H1 _ g1 rx p => ?_
  unfold r1D at p
  split at p
  · cases rx
    split at p
    · rename_i h
      exact ⟨_, rfl, h.1, h.2, p _ G1 H1 (Gr.refl g1.ok) walker_range⟩
    · exact p.elim
  · exact p.elim
theorem di_range2 {p : Pos} (hg : Gl X "range") (hm : X.mg "range" = none) (ha : DE TS X a fa) (hb : DE TS X b fb) (hs : starEach [a, b] X.env = [(false, eval a X.env), (false, eval b X.env)] := by rfl) (hs2 : starEach [b] X.env = [(false, eval b X.env)] := by rfl) :
    DI TS X tg (.Call (.Name "range" p) [a, b] [] pos) (iF2 r2D fa fb) := by
  refine ⟨?_⟩
  intro W ρ σ G H R tk re ok post
  refine wpIt_of (pi_range2 hg hm (pa_cons (pe_wp X a) (pa_cons (pe_wp X b) pa_nil hs2) (by rw [hs, hs2])) hs hs2) ?_
  refine bindP (wp := fun R => wpE X a σ H R) back_J (fun Q' p => ha W ρ σ G H Q' tk re ok p) post fun v x G1 H1 _ g1 rx p => ?_
  refine bindP (wp := fun R => wpE X b σ H1 R) back_J (fun Q' q => hb W ρ σ G1 H1 Q' tk (re.mono g1) g1.ok q) p fun u y G2 H2 _ g2 ry p => ?_
  unfold r2D at p
  split at p
  · cases rx
    cases ry
    split at p
    · rename_i h
      exact ⟨_, _, rfl, h, p _ G2 H2 (Gr.refl g2.ok) walker_range⟩
    · exact p.elim
  · exact p.elim
/-- a new pair at each turn -/
def pairs (xs ys : List D) : List D := (xs.zip ys).map fun p => .tuple [p.1, p.2]
def enumL : Nat → List D → List D
  | _, [] => []
  | n, d :: ds => .tuple [.int n, d] :: enumL (n + 1) ds
theorem enum_len : ∀ (ds : List D) (n : Nat), (enumL n ds).length = ds.length
  | [], _ => rfl
  | d :: ds, n => by show (enumL (n + 1) ds).length + 1 = ds.length + 1; rw [enum_len ds]
theorem enum_at : ∀ (ds : List D) (n i : Nat) (x : D), (enumL n ds)[i]? = some x → ∃ d, ds[i]? = some d ∧ x = .tuple [.int ((n + i : Nat) : Int), d]
  | [], _, _, _, h => by simp [enumL] at h
  | d :: ds, n, 0, x, h => by
    have e : some (PyData.tuple [.int n, d]) = some x := h
    cases e
    exact ⟨d, rfl, by simp⟩
  | d :: ds, n, i + 1, x, h => by
    obtain ⟨y, h1, h2⟩ := enum_at ds (n + 1) i x h
    refine ⟨y, by simpa using h1, ?_⟩
    rw [h2]
    congr 3
    omega
def enumD : D → Res (List D)
  | .list ds => .ok (enumL 0 ds)
  | _ => .bad
theorem pair_new {K : PySem.W.Frag} {G H : Hp} {T : Addr} {v u : V} {x y : D} (ok : Ok0 TS G H) (h : H T = none) (r1 : Rp K G v x) (r2 : Rp K G u y) : ∃ G', Gr TS G H G' (upd H T (.tup [v, u])) ∧ Rp K G' (.ref T) (.tuple [x, y]) := by
  have g := Gr.new (o := .tup [v, u]) ok h
  exact ⟨_, g, .tup (.inl (.inl upd_same)) (.cons (r1.mono g.g) (.cons (r2.mono g.g) .nil))⟩
theorem di_enum {elts : List Expr} {kk : Nat} {p tpos : Pos} (hg : Gl X "enumerate") (hm : X.mg "enumerate" = none) (ha : DE TS X a fa) (hs : starEach [a] X.env = [(false, eval a X.env)] := by rfl) : DI TS X (.Tuple elts kk tpos) (.Call (.Name "enumerate" p) [a] [] pos) (iF enumD fa) := by
  refine ⟨?_⟩
  intro W ρ σ G H R tk re ok post
  refine wpIt_of (pi_enum hg hm (pa_cons (pe_wp X a) pa_nil hs) hs) ?_
  refine bindP (wp := fun R => wpE X a σ H R) back_J (fun Q' p => ha W ρ σ G H Q' tk re ok p) post fun v x G1 H1 _ g1 rx p => ?_
  unfold enumD at p
  split at p
  · rename_i ds _
    obtain ⟨q, xs, rfl, hq, r⟩ := rx.list_inv
    refine ⟨q, xs, rfl, ex_l g1.ok.le hq, p _ G1 H1 (Gr.refl g1.ok) ?_⟩
    intro G2 H2 e ok2
    have h1 : SqL X.K H2 q xs := ex_l (e.trans ok2.le) hq
    refine ⟨fun i x hx => ?_, ⟨xs, h1, by rw [r.len, enum_len]; exact Nat.le_refl _⟩⟩
    obtain ⟨d, hd, rfl⟩ := enum_at ds 0 i x hx
    obtain ⟨v, hv, rv⟩ := r.at hd
    refine ⟨⟨xs, v, h1, hv⟩, fun v' H' y => ?_⟩
    obtain ⟨T, z, rfl, hT, rfl, hz⟩ := y
    have e2 : some z = some v := (hz xs h1).symm.trans hv
    cases e2
    have r0 : Rp X.K G2 (.int ((i : Nat) : Int)) (.int ((0 + i : Nat) : Int)) := by rw [Nat.zero_add]; exact .int _
    exact pair_new ok2 hT r0 (rv.mono e)
  · exact p.elim
end

/-! ### targets -/
inductive Tg where
  | nm (i : Nat)
  | tp (is : List Nat)
def gMany : List Nat → TGs
  | [] => gNil
  | i :: is => gCons (gName i) (gMany is)
def gTg (K : PySem.W.Frag) : Tg → TG
  | .nm i => gName i
  | .tp is => gTup K is.length (gMany is)
def Tg.all : Tg → List Nat
  | .nm i => [i]
  | .tp is => is
def setsE : List Nat → List D → En → En
  | i :: is, d :: ds, ρ => setsE is ds (ρ.set i (some d))
  | _, _, ρ => ρ
def tgE : Tg → D → En → Res En
  | .nm i, d, ρ => .ok (ρ.set i (some d))
  | .tp is, .tuple ds, ρ => if ds.length = is.length then .ok (setsE is ds ρ) else .bad
  | _, _, _ => .bad
def setsF : List Nat → List D → Frm → Frm
  | i :: is, d :: ds, ρ => setsF is ds (ρ.set i (.val d))
  | _, _, ρ => ρ
def tgF : Tg → D → Frm → Res Frm
  | .nm i, d, ρ => .ok (ρ.set i (.val d))
  | .tp is, .tuple ds, ρ => if ds.length = is.length then .ok (setsF is ds ρ) else .bad
  | _, _, _ => .bad
section
variable {TS : TabList} {K : PySem.W.Frag} {G_0 H_0 G H : Hp} {fp : Nat → List Addr}
theorem RpE.set {ρ : En} {σ : L2.St} {i : Nat} {v : V} {d : D} (h : RpE TS K G H ρ σ) (r : Rp K G v d) : RpE TS K G H (ρ.set i (some d)) (σ.set i (some v)) := by
  refine ⟨by simpa using h.len, fun j d' e z => ?_, fun j ds e => ?_, fun j ds e => ?_⟩
  · rcases set_at e with ⟨rfl, e, hl⟩ | ⟨ne, e⟩
    · cases e
      exact ⟨v, List.getElem?_set_self (Nat.lt_of_lt_of_le hl h.len), r⟩
    · rw [List.getElem?_set_ne ne]
      exact h.at' j d' e z
  · rcases set_at e with ⟨rfl, e, hl⟩ | ⟨ne, e⟩
    · cases e
      exact absurd r.notLo (by simp [isLo])
    · rw [List.getElem?_set_ne ne]
      exact h.lo j ds e
  · rcases set_at e with ⟨rfl, e, hl⟩ | ⟨ne, e⟩
    · cases e
      exact absurd r.notLo (by simp [isLo])
    · rw [List.getElem?_set_ne ne]
      exact h.st j ds e
theorem wipe_at {j : Nat} : ∀ (vs : List Nat) (τ : L2.St), (wipe τ vs)[j]? = if j ∈ vs then (τ[j]?).map (fun _ => none) else τ[j]? := by
  intro vs
  induction vs with
  | nil => intro τ; simp [wipe]
  | cons w ws ih =>
    intro τ
    show ((wipe τ ws).set w none)[j]? = _
    by_cases e : w = j
    · subst e
      rw [if_pos List.mem_cons_self, List.getElem?_set]
      rw [wipe_length]
      by_cases hl : w < τ.length
      · simp [hl]
      · simp [hl]
    · rw [List.getElem?_set_ne e, ih]
      by_cases m : j ∈ ws
      · rw [if_pos m, if_pos (List.mem_cons_of_mem _ m)]
      · rw [if_neg m, if_neg (fun z => (List.mem_cons.mp z).elim (fun q => e q.symm) m)]
theorem wipe_set {σ : L2.St} {i : Nat} {x : Option V} {vs : List Nat} (h : i ∈ vs) : wipe (σ.set i x) vs = wipe σ vs := by
  apply List.ext_getElem?
  intro j
  rw [wipe_at, wipe_at]
  by_cases e : i = j
  · subst e
    rw [if_pos h, if_pos h, List.getElem?_set]
    by_cases hl : i < σ.length
    · simp [hl]
    · simp [hl]
  · rw [List.getElem?_set_ne e]
theorem wipe_wipe (σ : L2.St) (vs : List Nat) : wipe (wipe σ vs) vs = wipe σ vs := by
  apply List.ext_getElem?
  intro j
  rw [wipe_at, wipe_at]
  by_cases m : j ∈ vs
  · rw [if_pos m, if_pos m]
    cases σ[j]? <;> rfl
  · rw [if_neg m, if_neg m]
theorem gMany_ok {Q : L2.St → Hp → Prop} {own : List Nat} : ∀ (is : List Nat) (ds : List D) (vs : List V) (ρ : En) (σ : L2.St), (∀ i ∈ is, i ∈ own) → ds.length = is.length → Rps K G vs ds → RpE TS K G H ρ σ →
    (∀ σ', RpE TS K G H (setsE is ds ρ) σ' → wipe σ' own = wipe σ own → Q σ' H) → gMany is vs σ H Q
  | [], [], _, ρ, σ, _, _, .nil, re, k => ⟨rfl, k σ re rfl⟩
  | i :: is, d :: ds, _, ρ, σ, ho, hl, .cons r rs, re, k => by
    refine ⟨_, _, rfl, ?_⟩
    refine gMany_ok is ds _ (ρ.set i (some d)) (σ.set i (some _)) (fun j hj => ho j (List.mem_cons_of_mem _ hj)) (by simpa using hl) rs (re.set r) fun σ' h1 h2 => k σ' h1 ?_
    rw [h2, wipe_set (ho i List.mem_cons_self)]
  | [], _ :: _, _, _, _, _, hl, _, _, _ => by simp at hl
  | _ :: _, [], _, _, _, _, hl, _, _, _ => by simp at hl
theorem gTg_ok {Q : L2.St → Hp → Prop} {own : List Nat} {t : Tg} {d : D} {v : V} {ρ ρ' : En} {σ : L2.St} (ok : Ok0 TS G H) (ho : ∀ i ∈ t.all, i ∈ own) (r : Rp K G v d) (re : RpE TS K G H ρ σ) (e : tgE t d ρ = .ok ρ')
    (k : ∀ σ', RpE TS K G H ρ' σ' → wipe σ' own = wipe σ own → Q σ' H) : gTg K t v σ H Q := by
  cases t with
  | nm i =>
    cases e
    exact k _ (re.set r) (wipe_set (ho i (by simp [Tg.all])))
  | tp is =>
    cases r <;> try cases e
    rename_i a xs ds h rs
    have e : (if ds.length = is.length then Res.ok (setsE is ds ρ) else .bad) = .ok ρ' := e
    split at e
    · rename_i hl
      cases e
      exact ⟨a, xs, rfl, ex_t ok.le h, by rw [rs.len, hl], gMany_ok is ds xs ρ σ ho hl rs re k⟩
    · cases e
theorem gManyF_ok {Q : L2.St → Hp → Prop} : ∀ (is : List Nat) (ds : List D) (vs : List V) (ρ : Frm) (σ : L2.St), ds.length = is.length → Rps K G vs ds → SI TS K G_0 H_0 ρ σ G H fp →
    (∀ σ', SI TS K G_0 H_0 (setsF is ds ρ) σ' G H fp → Q σ' H) → gMany is vs σ H Q
  | [], [], _, ρ, σ, _, .nil, re, k => ⟨rfl, k σ re⟩
  | i :: is, d :: ds, _, ρ, σ, hl, .cons r rs, re, k => ⟨_, _, rfl, gManyF_ok is ds _ (ρ.set i (.val d)) (σ.set i (some _)) (by simpa using hl) rs (re.setVal r) k⟩
  | [], _ :: _, _, _, _, hl, _, _, _ => by simp at hl
  | _ :: _, [], _, _, _, hl, _, _, _ => by simp at hl
theorem gTgF_ok {Q : L2.St → Hp → Prop} {t : Tg} {d : D} {v : V} {ρ ρ' : Frm} {σ : L2.St} (r : Rp K G v d) (s : SI TS K G_0 H_0 ρ σ G H fp) (e : tgF t d ρ = .ok ρ') (k : ∀ σ', SI TS K G_0 H_0 ρ' σ' G H fp → Q σ' H) : gTg K t v σ H Q := by
  cases t with
  | nm i =>
    cases e
    exact k _ (s.setVal r)
  | tp is =>
    cases r <;> try cases e
    rename_i a xs ds h rs
    have e : (if ds.length = is.length then Res.ok (setsF is ds ρ) else .bad) = .ok ρ' := e
    split at e
    · rename_i hl
      cases e
      exact ⟨a, xs, rfl, ex_t s.gr.ok.le h, by rw [rs.len, hl], gManyF_ok is ds xs ρ σ hl rs s k⟩
    · cases e
end
end Pyr

set_option Elab.async false
set_option autoImplicit false
set_option linter.all false
set_option maxRecDepth 100000
set_option maxHeartbeats 1000000
namespace Pyr
open PySem PySem.Spec PyProof.Rows L2 Evl

/-! ### for -/
def forF (t : Tg) (F : Frm → Res Fl) : List D → Frm → Res Fl
  | [], ρ => .ok (.next ρ)
  | d :: ds, ρ => (tgF t d ρ).bind fun ρ1 => (F ρ1).bind fun fl => match fl with
    | .next ρ2 => forF t F ds ρ2
    | .cont ρ2 => forF t F ds ρ2
    | .brk ρ2 => .ok (.next ρ2)
    | .ret r => .ok (.ret r)
def evI (fi : En → Res (List D)) (ρ : Frm) : Res (List D) := match fi (purE ρ) with
  | .exc _ _ => .bad
  | r => r
def sFor (t : Tg) (fi : En → Res (List D)) (F : Frm → Res Fl) : Frm → Res Fl := fun ρ => (evI fi ρ).bind fun ds => forF t F ds ρ
/-- over ints that are read off own objects too (range) -/
def evR (fi : En → Res (List D)) (ρ : Frm) : Res (List D) := match fi (frzE ρ) with
  | .exc _ _ => .bad
  | .ok ds => if ds.all flat0 then .ok ds else .bad
  | r => r
def sForR (t : Tg) (fi : En → Res (List D)) (F : Frm → Res Fl) : Frm → Res Fl := fun ρ => (evR fi ρ).bind fun ds => forF t F ds ρ
section
variable {TS : TabList} {X : Cx} {W : WX} {tg iter : Expr} {fi : En → Res (List D)} {F : Frm → Res Fl} {body : List Stmt} {pos : Pos} {t : Tg}
theorem tgF_exc {d : D} {ρ : Frm} {c : Str} {fs : List (Str × D)} : ¬ tgF t d ρ = .exc c fs := by
  intro h
  cases t with
  | nm i => cases h
  | tp is =>
    cases d <;> try cases h
    have h : (if (by assumption : List D).length = is.length then Res.ok (setsF is (by assumption) ρ) else .bad) = .exc c fs := h
    split at h <;> cases h
theorem for_core {J : It} {ds : List D} {G_0 H_0 G H G1 : Hp} {ρ : Frm} {σ : L2.St} {fp : Nat → List Addr} {Dn : Ends} (hb : DSs TS X body F) (tk : Takes X W)
    (wk : ∀ (G2 H2 : Hp), Ex G1 G2 → Ok0 TS G2 H2 → (∀ (i : Nat) (x : D), ds[i]? = some x → J.go i H2 ∧ ∀ v H', J.yld i H2 v H' → ∃ G', Gr TS G2 H2 G' H' ∧ Rp X.K G' v x) ∧ J.stop ds.length H2)
    (s : SI TS X.K G_0 H_0 ρ σ G H fp) (e1 : Ex G1 G) (p : PostS TS X W G_0 H_0 G Dn (forF t F ds ρ)) :
    ∃ Wd : Nat → Nat → L2.St → Hp → Prop, (∃ m, Wd 0 m σ H) ∧ ∀ i m σ H, Wd i m σ H →
      (J.stop i H ∧ Dn.nx σ H) ∨ (J.go i H ∧ ∃ N : L2.St → Hp → Prop, (∀ σ' H', N σ' H' → ∃ m', m' < m ∧ Wd (i + 1) m' σ' H') ∧ ∀ x H', J.yld i H x H' → gTg X.K t x σ H' fun σ2 H2 => wpSs X body { Dn with nx := N, ct := N, bk := Dn.nx } σ2 H2) := by
  refine ⟨fun i m σ H => m = ds.length - i ∧ i ≤ ds.length ∧ ∃ ρ G fp, SI TS X.K G_0 H_0 ρ σ G H fp ∧ Ex G1 G ∧ PostS TS X W G_0 H_0 G Dn (forF t F (ds.drop i) ρ), ⟨ds.length, by simp, Nat.zero_le _, ρ, G, fp, s, e1, by rw [List.drop_zero]; exact p⟩, ?_⟩
  rintro i m σ H ⟨rfl, hi, ρ, G, fp, s, e1, p⟩
  obtain ⟨w1, w2⟩ := wk G H e1 s.gr.ok
  by_cases hlt : i < ds.length
  · have hx : ds[i]? = some ds[i] := List.getElem?_eq_getElem hlt
    have hd : ds.drop i = ds[i] :: ds.drop (i + 1) := List.drop_eq_getElem_cons hlt
    rw [hd] at p
    obtain ⟨h1, h2⟩ := w1 i _ hx
    refine .inr ⟨h1, fun σ' H' => ∃ ρ' G' fp', SI TS X.K G_0 H_0 ρ' σ' G' H' fp' ∧ Ex G1 G' ∧ PostS TS X W G_0 H_0 G' Dn (forF t F (ds.drop (i + 1)) ρ'), fun σ' H' h => ⟨ds.length - (i + 1), by omega, rfl, hlt, h⟩, fun v H' y => ?_⟩
    obtain ⟨G', g, r⟩ := h2 v H' y
    have p : PostS TS X W G_0 H_0 G Dn ((tgF t ds[i] ρ).bind fun ρ1 => (F ρ1).bind fun fl => match fl with
      | .next ρ2 => forF t F (ds.drop (i + 1)) ρ2
      | .cont ρ2 => forF t F (ds.drop (i + 1)) ρ2
      | .brk ρ2 => .ok (.next ρ2)
      | .ret r => .ok (.ret r)) := p
    cases ht : tgF t ds[i] ρ with
    | ok ρ1 =>
      rw [ht] at p
      refine gTgF_ok r (s.grow g) ht fun σ2 s2 => ?_
      refine hb W ρ1 σ2 G_0 H_0 G' H' fp _ tk s2 ?_
      have p : PostS TS X W G_0 H_0 G Dn ((F ρ1).bind fun fl => match fl with
        | .next ρ2 => forF t F (ds.drop (i + 1)) ρ2
        | .cont ρ2 => forF t F (ds.drop (i + 1)) ρ2
        | .brk ρ2 => .ok (.next ρ2)
        | .ret r => .ok (.ret r)) := p
      cases hf : F ρ1 with
      | ok fl =>
        rw [hf] at p
        cases fl with
        | next ρ2 => exact fun σ3 G3 H3 fp3 e3 s3 => ⟨ρ2, G3, fp3, s3, (e1.trans g.g).trans e3, p.shift (g.g.trans e3)⟩
        | cont ρ2 => exact fun σ3 G3 H3 fp3 e3 s3 => ⟨ρ2, G3, fp3, s3, (e1.trans g.g).trans e3, p.shift (g.g.trans e3)⟩
        | brk ρ2 => exact fun σ3 G3 H3 fp3 e3 s3 => p σ3 G3 H3 fp3 (g.g.trans e3) s3
        | ret r =>
          cases r with
          | val d => exact p
          | own ds => exact p
      | exc c fs =>
        rw [hf] at p
        exact p
      | bad =>
        rw [hf] at p
        exact p.elim
    | exc c fs => exact (tgF_exc ht).elim
    | bad =>
      rw [ht] at p
      exact p.elim
  · have e : i = ds.length := by omega
    subst e
    rw [List.drop_length] at p
    exact .inl ⟨w2, p σ G H fp (Ex.refl G) s⟩
theorem ds_for (C : CtE X) (hp : PassesOwn (model X.prog X.w) X.A X.env X.xe) (hi : DI TS X tg iter fi) (hg : PG X tg (gTg X.K t)) (hb : DSs TS X body F) (hs : ∀ x, foldedSetIterable iter X.env x = pure x := by intro _; rfl) : DSt TS X (.For tg iter body [] pos) (sFor t fi F) := by
  refine ⟨?_⟩
  intro W ρ σ G_0 H_0 G H fp Dn tk s p
  refine wpSt_of (ps_for hp C.calm (pi_wp X tg iter) hg (pss_wp X body) hs) ?_
  have p : PostS TS X W G_0 H_0 G Dn ((evI fi ρ).bind fun ds => forF t F ds ρ) := p
  refine hi W (purE ρ) σ G H _ tk s.pure s.gr.ok ?_
  unfold evI at p
  cases hf : fi (purE ρ) with
  | ok ds =>
    rw [hf] at p
    exact fun J G1 H1 g wk => for_core hb tk wk (s.grow g) (Ex.refl G1) (p.shift g.g)
  | exc c fs =>
    rw [hf] at p
    exact p.elim
  | bad =>
    rw [hf] at p
    exact p.elim
/-- a walk that hangs on ints alone stands over any data -/
structure FlatW (TS : TabList) (X : Cx) (tg iter : Expr) (fi : En → Res (List D)) : Prop where
  run : ∀ (W : WX) (ρ : En) (σ : L2.St) (G H : Hp) (R : It → Hp → Prop), Takes X W → RpE TS X.K G H ρ σ → Ok0 TS G H → PostG (fun _ _ _ (J : It) ds => ∀ G, Walker TS X.K J ds G) TS X W σ G H (fi ρ) R → wpIt X tg iter σ H R
instance {TS : TabList} {X : Cx} {tg iter : Expr} {fi : En → Res (List D)} : CoeFun (FlatW TS X tg iter fi) fun _ => ∀ (W : WX) (ρ : En) (σ : L2.St) (G H : Hp) (R : It → Hp → Prop), Takes X W → RpE TS X.K G H ρ σ → Ok0 TS G H → PostG (fun _ _ _ (J : It) ds => ∀ G, Walker TS X.K J ds G) TS X W σ G H (fi ρ) R → wpIt X tg iter σ H R := ⟨FlatW.run⟩
theorem ds_forR (C : CtE X) (hp : PassesOwn (model X.prog X.w) X.A X.env X.xe) (hi : FlatW TS X tg iter fi) (hg : PG X tg (gTg X.K t)) (hb : DSs TS X body F) (hs : ∀ x, foldedSetIterable iter X.env x = pure x := by intro _; rfl) : DSt TS X (.For tg iter body [] pos) (sForR t fi F) := by
  refine ⟨?_⟩
  intro W ρ σ G_0 H_0 G H fp Dn tk s p
  refine wpSt_of (ps_for hp C.calm (pi_wp X tg iter) hg (pss_wp X body) hs) ?_
  have p : PostS TS X W G_0 H_0 G Dn ((evR fi ρ).bind fun ds => forF t F ds ρ) := p
  refine hi W (frzE ρ) σ (noTb H) H _ tk s.frz (ok_noTb s.gr.ok) ?_
  unfold evR at p
  cases hf : fi (frzE ρ) with
  | ok ds =>
    rw [hf] at p
    have p : PostS TS X W G_0 H_0 G Dn ((if ds.all flat0 then Res.ok ds else .bad).bind fun ds => forF t F ds ρ) := p
    split at p
    · exact fun J G1 H1 g wk => for_core hb tk (wk G) (s.grow (gr_noTb s.gr.ok g)) (Ex.refl G) p
    · exact p.elim
  | exc c fs =>
    rw [hf] at p
    exact p.elim
  | bad =>
    rw [hf] at p
    exact p.elim
end
section
variable {TS : TabList} {X : Cx} {tg a b : Expr} {fa fb : En → Res D} {pos : Pos}
theorem back_FW {K : PySem.W.Frag} : Back (fun _ _ _ (J : It) (ds : List D) => ∀ G, Walker TS K J ds G) := fun _ _ _ _ _ _ _ h => h
theorem fw_range1 {p : Pos} (hg : Gl X "range") (hm : X.mg "range" = none) (ha : DE TS X a fa) (hs : starEach [a] X.env = [(false, eval a X.env)] := by rfl) : FlatW TS X tg (.Call (.Name "range" p) [a] [] pos) (iF r1D fa) := by
  refine ⟨?_⟩
  intro W ρ σ G H R tk re ok post
  refine wpIt_of (pi_range1 hg hm (pa_cons (pe_wp X a) pa_nil hs) hs) ?_
  refine bindP (wp := fun R => wpE X a σ H R) back_FW (fun Q' p => ha W ρ σ G H Q' tk re ok p) post fun v x G1 H1 _ g1 rx p => ?_
  unfold r1D at p
  split at p
  · cases rx
    split at p
    · rename_i h
      exact ⟨_, rfl, h.1, h.2, p _ G1 H1 (Gr.refl g1.ok) fun _ => walker_range⟩
    · exact p.elim
  · exact p.elim
theorem fw_range2 {p : Pos} (hg : Gl X "range") (hm : X.mg "range" = none) (ha : DE TS X a fa) (hb : DE TS X b fb) (hs : starEach [a, b] X.env = [(false, eval a X.env), (false, eval b X.env)] := by rfl) (hs2 : starEach [b] X.env = [(false, eval b X.env)] := by rfl) :
    FlatW TS X tg (.Call (.Name "range" p) [a, b] [] pos) (iF2 r2D fa fb) := by
  refine ⟨?_⟩
  intro W ρ σ G H R tk re ok post
  refine wpIt_of (pi_range2 hg hm (pa_cons (pe_wp X a) (pa_cons (pe_wp X b) pa_nil hs2) (by rw [hs, hs2])) hs hs2) ?_
  refine bindP (wp := fun R => wpE X a σ H R) back_FW (fun Q' p => ha W ρ σ G H Q' tk re ok p) post fun v x G1 H1 _ g1 rx p => ?_
  refine bindP (wp := fun R => wpE X b σ H1 R) back_FW (fun Q' q => hb W ρ σ G1 H1 Q' tk (re.mono g1) g1.ok q) p fun u y G2 H2 _ g2 ry p => ?_
  unfold r2D at p
  split at p
  · cases rx
    cases ry
    split at p
    · rename_i h
      exact ⟨_, _, rfl, h, p _ G2 H2 (Gr.refl g2.ok) fun _ => walker_range⟩
    · exact p.elim
  · exact p.elim
end

/-! ### comprehensions -/
def noX {α : Type} : Res α → Res α
  | .exc _ _ => .bad
  | r => r
def wipeE (ρ : En) : List Nat → En
  | [] => ρ
  | v :: vs => (wipeE ρ vs).set v none
def compF (t : Tg) (tt : En → Res Bool) (fe : En → Res D) (ρ : En) : List D → Res (List D)
  | [] => .ok []
  | d :: ds => (tgE t d ρ).bind fun ρ1 => (noX (tt ρ1)).bind fun b => if b then (noX (fe ρ1)).bind fun y => (compF t tt fe ρ ds).bind fun ys => .ok (y :: ys) else compF t tt fe ρ ds
def lComp (own : List Nat) (t : Tg) (fi : En → Res (List D)) (tt : En → Res Bool) (fe : En → Res D) : En → Res (List D) := fun ρ => (fi ρ).bind fun ds => okL ds.length (compF t tt fe (wipeE ρ own) ds)
def wpTs (X : Cx) (ifs : List Expr) : TT := fun σ H Q => ∀ (pins : List (Addr × Obj)) (s : Shared), Inv X pins σ H s → wpAny (model X.prog X.w) X.A (forIn ifs true fun c r => if r = true then do let ok ← isTrue c X.env (eval c X.env); pure (ForInStep.yield ok) else pure (ForInStep.yield r)) (TP X pins σ Q) X.xe s
theorem pts_wp (X : Cx) (ifs : List Expr) : PTs X ifs (wpTs X ifs) := ⟨fun pins s _ _ _ I h => h pins s I⟩
theorem wpTs_of {X : Cx} {ifs : List Expr} {t : TT} {σ : L2.St} {H : Hp} {Q : Bool → Hp → Prop} (h : PTs X ifs t) (q : t σ H Q) : wpTs X ifs σ H Q := fun pins s I => h.run pins s σ H Q I q
structure DTs (TS : TabList) (X : Cx) (ifs : List Expr) (f : En → Res Bool) : Prop where
  run : ∀ (W : WX) (ρ : En) (σ : L2.St) (G H : Hp) (Q : Bool → Hp → Prop), Takes X W → RpE TS X.K G H ρ σ → Ok0 TS G H → PostG RelT TS X W σ G H (f ρ) Q → wpTs X ifs σ H Q
instance {TS : TabList} {X : Cx} {ifs : List Expr} {f : En → Res Bool} : CoeFun (DTs TS X ifs f) fun _ => ∀ (W : WX) (ρ : En) (σ : L2.St) (G H : Hp) (Q : Bool → Hp → Prop), Takes X W → RpE TS X.K G H ρ σ → Ok0 TS G H → PostG RelT TS X W σ G H (f ρ) Q → wpTs X ifs σ H Q := ⟨DTs.run⟩
def tYesR : En → Res Bool := fun _ => .ok true
theorem dts_nil {TS : TabList} {X : Cx} : DTs TS X [] tYesR := .mk fun W ρ σ G H Q tk re ok post => wpTs_of pts_nil (post true G H (Gr.refl ok) rfl)
theorem dts_one {TS : TabList} {X : Cx} {c : Expr} {ft : En → Res Bool} (h : DT TS X c ft) : DTs TS X [c] ft := .mk fun W ρ σ G H Q tk re ok post => wpTs_of (pts_one (pt_wp X c)) (h W ρ σ G H Q tk re ok post)
section
variable {TS : TabList} {X : Cx} {tg iter elt : Expr} {fi : En → Res (List D)} {tt : En → Res Bool} {fe : En → Res D} {ifs : List Expr} {pos : Pos} {t : Tg} {scope : Scope} {own : List (Str × Nat)}
theorem RpE.wipe {K : PySem.W.Frag} {G H : Hp} {ρ : En} {σ : L2.St} (h : RpE TS K G H ρ σ) : ∀ vs : List Nat, RpE TS K G H (wipeE ρ vs) (wipe σ vs)
  | [] => h
  | v :: vs => by
    have ih := h.wipe vs
    refine ⟨by show ((wipeE ρ vs).set v none).length ≤ ((L2.wipe σ vs).set v none).length; simpa using ih.len, fun i d e z => ?_, fun i ds e => ?_, fun i ds e => ?_⟩
    · rcases set_at e with ⟨_, e, _⟩ | ⟨ne, e⟩
      · cases e
      · obtain ⟨w, h1, h2⟩ := ih.at' i d e z
        refine ⟨w, ?_, h2⟩
        show ((L2.wipe σ vs).set v none)[i]? = _
        rw [List.getElem?_set_ne ne]
        exact h1
    · rcases set_at e with ⟨_, e, _⟩ | ⟨ne, e⟩
      · cases e
      · obtain ⟨a, ws, h1, h2⟩ := ih.lo i ds e
        refine ⟨a, ws, ?_, h2⟩
        show ((L2.wipe σ vs).set v none)[i]? = _
        rw [List.getElem?_set_ne ne]
        exact h1
    · rcases set_at e with ⟨_, e, _⟩ | ⟨ne, e⟩
      · cases e
      · obtain ⟨a, h1, h2⟩ := ih.st i ds e
        refine ⟨a, ?_, h2⟩
        show ((L2.wipe σ vs).set v none)[i]? = _
        rw [List.getElem?_set_ne ne]
        exact h1
theorem tgE_exc {d : D} {ρ : En} {c : Str} {fs : List (Str × D)} : ¬ tgE t d ρ = .exc c fs := by
  intro h
  cases t with
  | nm i => cases h
  | tp is =>
    cases d <;> try cases h
    have h : (if (by assumption : List D).length = is.length then Res.ok (setsE is (by assumption) ρ) else .bad) = .exc c fs := h
    split at h <;> cases h
theorem noX_exc {α : Type} {r : Res α} {c : Str} {fs : List (Str × D)} : ¬ noX r = .exc c fs := by
  cases r <;> intro h <;> cases h
theorem compF_exc {ρ : En} {c : Str} {fs : List (Str × D)} : ∀ ds : List D, ¬ compF t tt fe ρ ds = .exc c fs
  | [], h => by cases h
  | d :: ds, h => by
    have h : ((tgE t d ρ).bind fun ρ1 => (noX (tt ρ1)).bind fun b => if b then (noX (fe ρ1)).bind fun y => (compF t tt fe ρ ds).bind fun ys => .ok (y :: ys) else compF t tt fe ρ ds) = .exc c fs := h
    cases h1 : tgE t d ρ with
    | exc c' fs' => exact tgE_exc h1
    | bad => rw [h1] at h; cases h
    | ok ρ1 =>
      rw [h1] at h
      have h : ((noX (tt ρ1)).bind fun b => if b then (noX (fe ρ1)).bind fun y => (compF t tt fe ρ ds).bind fun ys => .ok (y :: ys) else compF t tt fe ρ ds) = .exc c fs := h
      cases h2 : noX (tt ρ1) with
      | exc c' fs' => exact noX_exc h2
      | bad => rw [h2] at h; cases h
      | ok b =>
        rw [h2] at h
        cases b with
        | false => exact compF_exc ds h
        | true =>
          have h : ((noX (fe ρ1)).bind fun y => (compF t tt fe ρ ds).bind fun ys => .ok (y :: ys)) = .exc c fs := h
          cases h3 : noX (fe ρ1) with
          | exc c' fs' => exact noX_exc h3
          | bad => rw [h3] at h; cases h
          | ok y =>
            rw [h3] at h
            have h : ((compF t tt fe ρ ds).bind fun ys => .ok (y :: ys)) = .exc c fs := h
            cases h4 : compF t tt fe ρ ds with
            | exc c' fs' => exact compF_exc ds h4
            | bad => rw [h4] at h; cases h
            | ok ys => rw [h4] at h; cases h
/-- the words of a block, whatever its own context -/
def blkT (X : Cx) (scope : Scope) (ifs : List Expr) : TT := fun σ H Q => ∀ (s : Shared) (H0 : Hp) (C : Addr) (cl : List (Str × Addr)) (fp : List Addr), wpTs (X.blk s H0 scope (compEnvC scope cl C X.env) fp) ifs σ H Q
def blkE (X : Cx) (scope : Scope) (elt : Expr) : TE := fun σ H Q => ∀ (s : Shared) (H0 : Hp) (C : Addr) (cl : List (Str × Addr)) (fp : List Addr), wpE (X.blk s H0 scope (compEnvC scope cl C X.env) fp) elt σ H Q
theorem comp_core {W : WX} {ρ : En} {σ : L2.St} {G H : Hp} {Q : VK} (hi : DI TS X tg iter fi) (ho : ∀ i ∈ t.all, i ∈ own.map (·.2))
    (ht : ∀ (s : Shared) (H : Hp) (C : Addr) (cl : List (Str × Addr)) (fp : List Addr), DTs TS (X.blk s H scope (compEnvC scope cl C X.env) fp) ifs tt)
    (he : ∀ (s : Shared) (H : Hp) (C : Addr) (cl : List (Str × Addr)) (fp : List Addr), DE TS (X.blk s H scope (compEnvC scope cl C X.env) fp) elt fe)
    (tk : Takes X W) (re : RpE TS X.K G H ρ σ) (ok : Ok0 TS G H) (post : PostG (RelL X.K) TS X W σ G H (lComp (own.map (·.2)) t fi tt fe ρ) Q) :
    tLc (wpIt X tg iter) (gTg X.K t) (blkT X scope ifs) (blkE X scope elt) (own.map (·.2)) σ H Q := by
  refine bindP (wp := fun R => wpIt X tg iter σ H R) back_L (fun Q' p => hi W ρ σ G H Q' tk re ok p) post fun J ds G1 H1 _ g1 wk p => ?_
  obtain ⟨hlim, p⟩ := okL_post p
  intro Dl hD
  have reW : ∀ {G' H' : Hp}, Gr TS G1 H1 G' H' → RpE TS X.K G' H' (wipeE ρ (own.map (·.2))) (wipe σ (own.map (·.2))) := fun e => ((re.mono g1).mono e).wipe _
  generalize hρ : wipeE ρ (own.map (·.2)) = ρ0 at p reW
  cases ht0 : compF t tt fe ρ0 ds with
  | exc c fs => exact (compF_exc ds ht0).elim
  | bad =>
    rw [ht0] at p
    exact p.elim
  | ok total =>
    rw [ht0] at p
    refine ⟨fun i m H => m = ds.length - i ∧ i ≤ ds.length ∧ ∃ Gi vs pre rest, Gr TS G1 H1 Gi H ∧ Gi Dl = none ∧ H Dl = some (.lst vs) ∧ Rps X.K Gi vs pre ∧ compF t tt fe ρ0 (ds.drop i) = .ok rest ∧ pre ++ rest = total ∧ pre.length ≤ i,
      ⟨ds.length, by simp, Nat.zero_le _, G1, [], [], total, Gr.own g1.ok hD, fresh_back g1.ok.le hD, upd_same, .nil, by rw [List.drop_zero]; exact ht0, rfl, Nat.le_refl _⟩, ?_⟩
    rintro i m H2 ⟨rfl, hi2, Gi, vs, pre, rest, gi, gD, hDl, rv, hr, ht2, hlen⟩
    obtain ⟨w1, w2⟩ := wk Gi H2 gi.g gi.ok
    by_cases hlt : i < ds.length
    · have hx : ds[i]? = some ds[i] := List.getElem?_eq_getElem hlt
      have hd : ds.drop i = ds[i] :: ds.drop (i + 1) := List.drop_eq_getElem_cons hlt
      rw [hd] at hr
      obtain ⟨h1, h2⟩ := w1 i _ hx
      refine .inr ⟨h1, fun H' => ∃ Gi vs pre rest, Gr TS G1 H1 Gi H' ∧ Gi Dl = none ∧ H' Dl = some (.lst vs) ∧ Rps X.K Gi vs pre ∧ compF t tt fe ρ0 (ds.drop (i + 1)) = .ok rest ∧ pre ++ rest = total ∧ pre.length ≤ i + 1, fun H' h => ⟨ds.length - (i + 1), by omega, rfl, hlt, h⟩, fun v H' y => ?_⟩
      obtain ⟨G', g, r⟩ := h2 v H' y
      have hr : ((tgE t ds[i] ρ0).bind fun ρ1 => (noX (tt ρ1)).bind fun b => if b then (noX (fe ρ1)).bind fun y => (compF t tt fe ρ0 (ds.drop (i + 1))).bind fun ys => .ok (y :: ys) else compF t tt fe ρ0 (ds.drop (i + 1))) = .ok rest := hr
      cases e1 : tgE t ds[i] ρ0 with
      | exc c fs => exact (tgE_exc e1).elim
      | bad => rw [e1] at hr; cases hr
      | ok ρ1 =>
        rw [e1] at hr
        have hr : ((noX (tt ρ1)).bind fun b => if b then (noX (fe ρ1)).bind fun y => (compF t tt fe ρ0 (ds.drop (i + 1))).bind fun ys => .ok (y :: ys) else compF t tt fe ρ0 (ds.drop (i + 1))) = .ok rest := hr
        refine gTg_ok g.ok ho r (reW (gi.trans g)) e1 fun σ2 re2 hw => ?_
        rw [wipe_wipe] at hw
        refine ⟨hw, fun s' H0' C' cl' fp' => ?_⟩
        refine ht s' H0' C' cl' fp' (fun _ _ _ _ => False) ρ1 σ2 G' H' _ takes0 re2 g.ok ?_
        cases e2 : tt ρ1 with
        | exc c fs => rw [e2] at hr; cases hr
        | bad => rw [e2] at hr; cases hr
        | ok b =>
          rw [e2] at hr
          intro b' G3 H3 g3 eb
          subst eb
          have keep : ∀ {Ga Ha Gb Hb : Hp}, Gr TS Ga Ha Gb Hb → Ga Dl = none → Ha Dl = some (.lst vs) → Gb Dl = none ∧ Hb Dl = some (.lst vs) := fun {Ga Ha Gb Hb} gg z1 z2 => by
            refine ⟨?_, gg.h.at z2 rfl⟩
            cases q : Gb Dl with
            | none => rfl
            | some w =>
              rcases gg.nw Dl (by rw [q]; simp) with c | c
              · exact absurd z1 c
              · rw [z2] at c
                cases c
          obtain ⟨k1, k2⟩ := keep g gD hDl
          obtain ⟨k3, k4⟩ := keep g3 k1 k2
          cases b' with
          | false =>
            refine iteF ⟨G3, vs, pre, rest, (gi.trans g).trans g3, k3, k4, (rv.mono g.g).mono g3.g, hr, ht2, Nat.le_succ_of_le hlen⟩
          | true =>
            refine iteT fun s' H0' C' cl' fp' => ?_
            have hr : ((noX (fe ρ1)).bind fun y => (compF t tt fe ρ0 (ds.drop (i + 1))).bind fun ys => .ok (y :: ys)) = .ok rest := hr
            refine he s' H0' C' cl' fp' (fun _ _ _ _ => False) ρ1 σ2 G3 H3 _ takes0 (re2.mono g3) g3.ok ?_
            cases e3 : fe ρ1 with
            | exc c fs => rw [e3] at hr; cases hr
            | bad => rw [e3] at hr; cases hr
            | ok yd =>
              rw [e3] at hr
              have hr : ((compF t tt fe ρ0 (ds.drop (i + 1))).bind fun ys => Res.ok (yd :: ys)) = .ok rest := hr
              cases e4 : compF t tt fe ρ0 (ds.drop (i + 1)) with
              | exc c fs => rw [e4] at hr; cases hr
              | bad => rw [e4] at hr; cases hr
              | ok ys =>
                rw [e4] at hr
                cases hr
                intro yv G4 H4 g4 ry
                obtain ⟨k5, k6⟩ := keep g4 k3 k4
                refine ⟨vs, k6, ?_, G4, vs ++ [yv], pre ++ [yd], ys, ?_, k5, upd_same, (((rv.mono g.g).mono g3.g).mono g4.g).app (.cons ry .nil), rfl, by rw [List.append_assoc]; exact ht2, by rw [List.length_append]; exact Nat.succ_le_succ hlen⟩
                · rw [rv.len]
                  refine Nat.lt_of_le_of_lt (Nat.le_trans hlen (Nat.le_trans hi2 hlim)) (by decide)
                · have gg := ((gi.trans g).trans g3).trans g4
                  refine ⟨gg.g, ⟨fun b w hb n => ?_, fun b hb => gg.h.old b (upd_none hb)⟩, gg.nw, ⟨fun b w hb => ?_, fun P hP => ?_, gg.ok.nt⟩⟩
                  · rw [upd_ne (ne_of_none hb hD)]
                    exact gg.h.same b w hb n
                  · rw [upd_ne (ne_of_none hb k5)]
                    exact gg.ok.le b w hb
                  · obtain ⟨ps, q1, q2⟩ := gg.ok.tb P hP
                    refine ⟨ps, ?_, q2⟩
                    rw [upd_ne fun e => ?_]
                    · exact q1
                    · rw [e, k6] at q1
                      cases q1
    · have e : i = ds.length := by omega
      subst e
      rw [List.drop_length] at hr
      cases hr
      rw [List.append_nil] at ht2
      subst ht2
      exact .inl ⟨w2, p _ Gi H2 gi ⟨Dl, vs, rfl, hD, gD, hDl, rv⟩⟩
theorem dl_comp (C : CtE X) (hi : DI TS X tg iter fi) (ok : BlkOk X.N X.env.scope scope own) (ho : ∀ i ∈ t.all, i ∈ own.map (·.2))
    (hg : ∀ (s : Shared) (H : Hp) (C : Addr) (cl : List (Str × Addr)) (fp : List Addr), PG (X.blk s H scope (compEnvC scope cl C X.env) fp) tg (gTg X.K t))
    (ht : ∀ (s : Shared) (H : Hp) (C : Addr) (cl : List (Str × Addr)) (fp : List Addr), DTs TS (X.blk s H scope (compEnvC scope cl C X.env) fp) ifs tt)
    (he : ∀ (s : Shared) (H : Hp) (C : Addr) (cl : List (Str × Addr)) (fp : List Addr), DE TS (X.blk s H scope (compEnvC scope cl C X.env) fp) elt fe) (hs : ∀ x, foldedSetIterable iter X.env x = pure x := by intro _; rfl) :
    DL TS X (.ListComp elt [⟨tg, iter, ifs, 0⟩] scope pos) (lComp (own.map (·.2)) t fi tt fe) := by
  refine ⟨?_⟩
  intro W ρ σ G H Q tk re k post
  exact wpE_of (pe_lc C.calm C.nd (pi_wp X tg iter) ok hg (fun s H C cl fp => ⟨fun pins s1 σ H1 Q I h => h s H C cl fp pins s1 I⟩) (fun s H C cl fp => ⟨fun pins s1 σ H1 Q I h => h s H C cl fp pins s1 I⟩) hs) (comp_core (elt := elt) hi ho ht he tk re k post)
theorem ds_setLc (i : Nat) {y : Str} {py spos : Pos} (C : CtE X) (hi : DI TS X tg iter fi) (ok : BlkOk X.N X.env.scope scope own) (ho : ∀ i ∈ t.all, i ∈ own.map (·.2))
    (hg : ∀ (s : Shared) (H : Hp) (C : Addr) (cl : List (Str × Addr)) (fp : List Addr), PG (X.blk s H scope (compEnvC scope cl C X.env) fp) tg (gTg X.K t))
    (ht : ∀ (s : Shared) (H : Hp) (C : Addr) (cl : List (Str × Addr)) (fp : List Addr), DTs TS (X.blk s H scope (compEnvC scope cl C X.env) fp) ifs tt)
    (he : ∀ (s : Shared) (H : Hp) (C : Addr) (cl : List (Str × Addr)) (fp : List Addr), DE TS (X.blk s H scope (compEnvC scope cl C X.env) fp) elt fe)
    (hsw : swapsWith (.ListComp elt [⟨tg, iter, ifs, 0⟩] scope pos) (some (.Name y py)) spos.line X.env = pure true) (hy : X.N[i]? = some y := by rfl) (hyl : X.env.scope.names.lookup y = some .local := by rfl) (hs : ∀ x, foldedSetIterable iter X.env x = pure x := by intro _; rfl) :
    DSt TS X (.Assign [.Name y py] (.ListComp elt [⟨tg, iter, ifs, 0⟩] scope pos) spos) (sSetL i (lComp (own.map (·.2)) t fi tt fe)) := by
  refine ⟨?_⟩
  intro W ρ σ G_0 H_0 G H fp D tk s p
  refine wpSt_of (ps_setLc (tt := blkT X scope ifs) (te := blkE X scope elt) C.calm C.nd hy hyl hsw (pi_wp X tg iter) ok hg (fun s H C cl fp => ⟨fun pins s1 σ H1 Q I h => h s H C cl fp pins s1 I⟩) (fun s H C cl fp => ⟨fun pins s1 σ H1 Q I h => h s H C cl fp pins s1 I⟩) hs) ?_
  refine evL_gen (wp := fun σ H R => tLc (wpIt X tg iter) (gTg X.K t) (blkT X scope ifs) (blkE X scope elt) (own.map (·.2)) σ H R) (fun W ρ σ G H Q tk re k post => comp_core hi ho ht he tk re k post) tk s p fun v ds G1 H1 g r p => ?_
  obtain ⟨fp', s'⟩ := s.storeL (i := i) g r
  exact p _ G1 H1 fp' g.g s'

/-! ### in, any, all, join, split -/
def orD : D → Res D := fun d => .ok d
end
section
variable {TS : TabList} {X : Cx} {a b : Expr} {fa fb : En → Res D} {es : List Expr} {fr : En → Res (List D)} {pos : Pos}
theorem eqV_eqv {K : PySem.W.Frag} {G : Hp} {v u : V} {x y : D} (rx : Rp K G v x) (ry : Rp K G u y) (h1 : flat0 x = true) (h2 : flat0 y = true) : flatV v = true ∧ eqV v u = PyData.eqv x y := by
  cases rx <;> cases ry <;> simp [flat0] at h1 h2 <;> refine ⟨rfl, ?_⟩ <;> simp only [PyData.eqv, eqV] <;> first | rfl | (rw [Bool.eq_iff_iff]; simp) | skip
theorem inV_any {K : PySem.W.Frag} {G : Hp} {v : V} {x : D} (rx : Rp K G v x) (h1 : flat0 x = true) : ∀ {us : List V} {ds : List D}, Rps K G us ds → ds.all flat0 = true → us.all flatV = true ∧ inV v us = ds.any fun z => PyData.eqv z x
  | _, _, .nil, _ => ⟨rfl, rfl⟩
  | _, _, .cons r rs, h => by
    rw [List.all_cons, Bool.and_eq_true] at h
    obtain ⟨a1, a2⟩ := eqV_eqv r rx h.1 h1
    obtain ⟨b1, b2⟩ := inV_any rx h1 rs h.2
    refine ⟨by rw [List.all_cons, a1, b1]; rfl, ?_⟩
    show (eqV _ v || inV v _) = _
    rw [a2, b2, List.any_cons]
theorem od_in (C : CtE X) : OpD TS X (compareOp .In) inD := by
  refine ⟨?_⟩
  intro W σ v u x y G H Q ok rx ry p
  cases y with
  | str w =>
    cases x with
    | str z =>
      have p : PostG (RelE X.K) TS X W σ G H (if z.length = 1 then .ok (.bool (decide (z.cps.getD 0 0 ∈ w.cps.toList))) else .bad) Q := p
      cases rx
      cases ry
      split at p
      · rename_i h
        refine wpO_of op_in_sign ⟨z.cps.getD 0 0, w, ?_, rfl, fin1 ok p (.bl _)⟩
        congr 1
        exact one_sign h
      · exact p.elim
    | _ => exact p.elim
  | list ds =>
    have p : PostG (RelE X.K) TS X W σ G H (if okd x && okd (.list ds) then .ok (.bool (ds.any fun z => PyData.eqv z x)) else .bad) Q := by
      cases x <;> exact p
    split at p
    · rename_i h
      rw [Bool.and_eq_true] at h
      exact wpO_of (op_inD (by have := C.un; omega)) ⟨x, ds, (rx.mono ok.le).okdp h.1, (ry.mono ok.le).okdp h.2, okd_shaped h.1, okd_shaped h.2, fin1 ok p (.bl _)⟩
    · exact p.elim
  | tuple ds =>
    have p : PostG (RelE X.K) TS X W σ G H (if flat0 x && ds.all flat0 then .ok (.bool (ds.any fun z => PyData.eqv z x)) else .bad) Q := by
      cases x <;> exact p
    split at p
    · rename_i h
      rw [Bool.and_eq_true] at h
      obtain ⟨q, xs, rfl, hq, r⟩ := ry.tup_inv
      obtain ⟨a1, a2⟩ := inV_any rx h.1 r h.2
      have a0 : flatV v = true := (eqV_eqv rx rx h.1 h.1).1
      refine wpO_of op_in_seq ⟨q, xs, rfl, .inr (ex_t ok.le hq), a0, a1, ?_⟩
      rw [a2]
      exact fin1 ok p (.bl _)
    · exact p.elim
  | _ => cases x <;> exact p.elim
end
end Pyr

set_option Elab.async false
set_option autoImplicit false
set_option linter.all false
set_option maxRecDepth 100000
set_option maxHeartbeats 1000000
namespace Pyr
open PySem PySem.Spec PyProof.Rows L2 Evl

def strsD : List D → Option (List Str)
  | [] => some []
  | .str x :: ds => (strsD ds).map (x :: ·)
  | _ => none
def joinS (a : Str) (ds : List D) : Res D := match strsD ds with
  | some ys => if (ys.map (·.length)).sum + ys.length * a.length ≤ LIM then .ok (.str (Txt.join a ys)) else .bad
  | none => .bad
def joinD (a : Str) : D → Res D
  | .list ds => joinS a ds
  | .tuple ds => joinS a ds
  | _ => .bad
def eJoin (fa fb : En → Res D) : En → Res D := fun ρ => (fa ρ).bind fun x => match x with
  | .str a => (fb ρ).bind (joinD a)
  | _ => .bad
def splitD (a : Str) : D → Res (List D)
  | .str b => if b.length ≠ 0 ∧ a.length + 2 ≤ LIM then .ok ((Txt.split a b).map .str) else .bad
  | _ => .bad
def lSplit (fa fb : En → Res D) : En → Res (List D) := fun ρ => (fa ρ).bind fun x => match x with
  | .str a => (fb ρ).bind (splitD a)
  | _ => .bad
def boolsD : List D → Option (List Bool)
  | [] => some []
  | .bool x :: ds => (boolsD ds).map (x :: ·)
  | _ => none
def anyD : D → Res D
  | .list ds => match boolsD ds with
    | some bs => .ok (.bool (bs.any id))
    | none => .bad
  | _ => .bad
def allD : D → Res D
  | .list ds => match boolsD ds with
    | some bs => .ok (.bool (bs.all id))
    | none => .bad
  | _ => .bad
section
variable {TS : TabList} {X : Cx} {a b : Expr} {fa fb : En → Res D} {es : List Expr} {fr : En → Res (List D)} {pos : Pos}
theorem strs_of {K : PySem.W.Frag} {G : Hp} : ∀ {vs : List V} {ds : List D} {ys : List Str}, Rps K G vs ds → strsD ds = some ys → vs = ys.map V.str
  | _, _, _, .nil, h => by cases h; rfl
  | _, _, _, .cons (d := d) r rs, h => by
    cases r <;> try cases h
    rename_i x
    have h : ((strsD _).map (x :: ·)) = some _ := h
    obtain ⟨zs, h1, rfl⟩ := Option.map_eq_some_iff.mp h
    rw [strs_of rs h1]
    rfl
theorem bools_of {K : PySem.W.Frag} {G : Hp} : ∀ {vs : List V} {ds : List D} {ys : List Bool}, Rps K G vs ds → boolsD ds = some ys → vs = ys.map V.bl
  | _, _, _, .nil, h => by cases h; rfl
  | _, _, _, .cons (d := d) r rs, h => by
    cases r <;> try cases h
    rename_i x
    have h : ((boolsD _).map (x :: ·)) = some _ := h
    obtain ⟨zs, h1, rfl⟩ := Option.map_eq_some_iff.mp h
    rw [bools_of rs h1]
    rfl
theorem join_line {n : Nat} (h : n ≤ LIM) : n ≤ 16777216 := Nat.le_trans h (by decide)
theorem de_join {apos : Pos} (ha : DE TS X a fa) (hb : DE TS X b fb) (hs : starEach [b] X.env = [(false, eval b X.env)] := by rfl) (hbase : attributeBase a "join" X.env (eval a X.env) = eval a X.env := by rfl) (hline : (apos.endLine == pos.line) = true := by rfl) :
    DE TS X (.Call (.Attribute a "join" apos) [b] [] pos) (eJoin fa fb) := by
  refine ⟨?_⟩
  intro W ρ σ G H Q tk re ok post
  refine wpE_of (pe_join (pe_wp X a) (pe_wp X b) hs hbase hline) ?_
  refine bindP (wp := fun R => wpE X a σ H R) back_E (fun Q' p => ha W ρ σ G H Q' tk re ok p) post fun v x G1 H1 _ g1 rx p => ?_
  cases rx with
  | str z =>
    refine ⟨⟨z, rfl⟩, ?_⟩
    refine bindP (wp := fun R => wpE X b σ H1 R) back_E (fun Q' q => hb W ρ σ G1 H1 Q' tk (re.mono g1) g1.ok q) p fun u y G2 H2 _ g2 ry p => ?_
    cases y with
    | list ds =>
      obtain ⟨q, xs, rfl, hq, r⟩ := ry.list_inv
      have p : PostG (RelE X.K) TS X W σ G2 H2 (match strsD ds with
        | some ys => if (ys.map (·.length)).sum + ys.length * z.length ≤ LIM then .ok (.str (Txt.join z ys)) else .bad
        | none => .bad) Q := p
      cases hs : strsD ds with
      | none => rw [hs] at p; exact p.elim
      | some ys =>
        rw [hs] at p
        have e := strs_of r hs
        subst e
        have p : PostG (RelE X.K) TS X W σ G2 H2 (if (ys.map (·.length)).sum + ys.length * z.length ≤ LIM then .ok (.str (Txt.join z ys)) else .bad) Q := p
        split at p
        · rename_i hl
          exact ⟨z, q, ys, rfl, rfl, .inl (ex_l g2.ok.le hq), join_line hl, fin1 g2.ok p (.str _)⟩
        · exact p.elim
    | tuple ds =>
      obtain ⟨q, xs, rfl, hq, r⟩ := ry.tup_inv
      have p : PostG (RelE X.K) TS X W σ G2 H2 (match strsD ds with
        | some ys => if (ys.map (·.length)).sum + ys.length * z.length ≤ LIM then .ok (.str (Txt.join z ys)) else .bad
        | none => .bad) Q := p
      cases hs : strsD ds with
      | none => rw [hs] at p; exact p.elim
      | some ys =>
        rw [hs] at p
        have e := strs_of r hs
        subst e
        have p : PostG (RelE X.K) TS X W σ G2 H2 (if (ys.map (·.length)).sum + ys.length * z.length ≤ LIM then .ok (.str (Txt.join z ys)) else .bad) Q := p
        split at p
        · rename_i hl
          exact ⟨z, q, ys, rfl, rfl, .inr (ex_t g2.ok.le hq), join_line hl, fin1 g2.ok p (.str _)⟩
        · exact p.elim
    | _ => exact p.elim
  | _ => exact p.elim
theorem rps_strs {K : PySem.W.Frag} {G : Hp} : ∀ ys : List Str, Rps K G (ys.map V.str) (ys.map .str)
  | [] => .nil
  | y :: ys => .cons (.str y) (rps_strs ys)
theorem dl_split {apos : Pos} (ha : DE TS X a fa) (hb : DE TS X b fb) (hs : starEach [b] X.env = [(false, eval b X.env)] := by rfl) (hbase : attributeBase a "split" X.env (eval a X.env) = eval a X.env := by rfl) (hline : (apos.endLine == pos.line) = true := by rfl) :
    DL TS X (.Call (.Attribute a "split" apos) [b] [] pos) (lSplit fa fb) := by
  refine ⟨?_⟩
  intro W ρ σ G H Q tk re ok post
  refine wpE_of (pe_split (pe_wp X a) (pe_wp X b) hs hbase hline) ?_
  refine bindP (wp := fun R => wpE X a σ H R) back_L (fun Q' p => ha W ρ σ G H Q' tk re ok p) post fun v x G1 H1 _ g1 rx p => ?_
  cases rx with
  | str z =>
    refine ⟨⟨z, rfl⟩, ?_⟩
    refine bindP (wp := fun R => wpE X b σ H1 R) back_L (fun Q' q => hb W ρ σ G1 H1 Q' tk (re.mono g1) g1.ok q) p fun u y G2 H2 _ g2 ry p => ?_
    cases ry with
    | str w =>
      have p : PostG (RelL X.K) TS X W σ G2 H2 (if w.length ≠ 0 ∧ z.length + 2 ≤ LIM then .ok ((Txt.split z w).map .str) else .bad) Q := p
      split at p
      · rename_i h
        refine ⟨z, w, rfl, rfl, by simpa using h.1, lim_line h.2, fun q hq => ?_⟩
        exact p _ _ _ (Gr.own (o := .lst ((Txt.split z w).map V.str)) g2.ok hq) ⟨q, _, rfl, hq, fresh_back g2.ok.le hq, upd_same, rps_strs _⟩
      · exact p.elim
    | _ => exact p.elim
  | _ => exact p.elim
theorem cd_any (C : CtE X) : CallD TS X (.builtin "any") (oneD anyD) := by
  refine ⟨?_⟩
  intro W σ vs ds G H Q ok rs p
  unfold oneD at p
  split at p
  · obtain ⟨v, rfl, r⟩ := rs.one_inv
    unfold anyD at p
    split at p
    · obtain ⟨q, xs, rfl, hq, r⟩ := r.list_inv
      split at p
      · rename_i bs hb
        have e := bools_of r hb
        subst e
        exact wpC_of (cr_any C.calm) ⟨q, bs, rfl, ex_l ok.le hq, fin1 ok p (.bl _)⟩
      · exact p.elim
    · exact p.elim
  · exact p.elim
theorem cd_all (C : CtE X) : CallD TS X (.builtin "all") (oneD allD) := by
  refine ⟨?_⟩
  intro W σ vs ds G H Q ok rs p
  unfold oneD at p
  split at p
  · obtain ⟨v, rfl, r⟩ := rs.one_inv
    unfold allD at p
    split at p
    · obtain ⟨q, xs, rfl, hq, r⟩ := r.list_inv
      split at p
      · rename_i bs hb
        have e := bools_of r hb
        subst e
        exact wpC_of (cr_all C.calm) ⟨q, bs, rfl, ex_l ok.le hq, fin1 ok p (.bl _)⟩
      · exact p.elim
    · exact p.elim
  · exact p.elim
theorem od_notIn (C : CtE X) : OpD TS X (compareOp .NotIn) notInD := by
  refine ⟨?_⟩
  intro W σ v u x y G H Q ok rx ry p
  cases y with
  | str w =>
    cases x with
    | str z =>
      have p : PostG (RelE X.K) TS X W σ G H ((if z.length = 1 then Res.ok (PyData.bool (decide (z.cps.getD 0 0 ∈ w.cps.toList))) else .bad).bind fun b => match b with
        | .bool b => .ok (.bool (!b))
        | _ => .bad) Q := p
      cases rx
      cases ry
      split at p
      · rename_i h
        refine wpO_of op_notIn_sign ⟨z.cps.getD 0 0, w, ?_, rfl, ?_⟩
        · congr 1
          exact one_sign h
        · exact fin1 ok p (.bl _)
      · exact p.elim
    | _ => exact p.elim
  | list ds =>
    have p : PostG (RelE X.K) TS X W σ G H ((if okd x && okd (.list ds) then Res.ok (PyData.bool (ds.any fun z => PyData.eqv z x)) else .bad).bind fun b => match b with
        | .bool b => .ok (.bool (!b))
        | _ => .bad) Q := by
      cases x <;> exact p
    split at p
    · rename_i h
      rw [Bool.and_eq_true] at h
      exact wpO_of (op_notInD (by have := C.un; omega)) ⟨x, ds, (rx.mono ok.le).okdp h.1, (ry.mono ok.le).okdp h.2, okd_shaped h.1, okd_shaped h.2, fin1 ok p (.bl _)⟩
    · exact p.elim
  | tuple ds =>
    have p : PostG (RelE X.K) TS X W σ G H ((if flat0 x && ds.all flat0 then Res.ok (PyData.bool (ds.any fun z => PyData.eqv z x)) else .bad).bind fun b => match b with
        | .bool b => .ok (.bool (!b))
        | _ => .bad) Q := by
      cases x <;> exact p
    split at p
    · rename_i h
      rw [Bool.and_eq_true] at h
      obtain ⟨q, xs, rfl, hq, r⟩ := ry.tup_inv
      obtain ⟨a1, a2⟩ := inV_any rx h.1 r h.2
      have a0 : flatV v = true := (eqV_eqv rx rx h.1 h.1).1
      refine wpO_of op_notIn_seq ⟨q, xs, rfl, .inr (ex_t ok.le hq), a0, a1, ?_⟩
      have e : (if true = true then !inV v xs else inV v xs) = !(ds.any fun z => PyData.eqv z x) := by rw [if_pos rfl, a2]
      rw [e]
      exact fin1 ok p (.bl _)
    · exact p.elim
  | _ => cases x <;> exact p.elim
end
end Pyr

set_option Elab.async false
set_option autoImplicit false
set_option linter.all false
set_option maxRecDepth 100000
set_option maxHeartbeats 1000000
namespace Pyr
open PySem PySem.Spec PyProof.Rows L2 Evl

theorem CtE.blk {X : Cx} {s : Shared} {H : Hp} {scope : Scope} {cenv : Env} {fp : List Addr} (C : CtE X) : CtE (X.blk s H scope cenv fp) := ⟨C.calm, C.nd, C.un⟩
theorem bt_len : bootBuiltins "len" = some (.builtin "len") := by decide +kernel
theorem bt_any : bootBuiltins "any" = some (.builtin "any") := by decide +kernel
theorem bt_all : bootBuiltins "all" = some (.builtin "all") := by decide +kernel
theorem bt_sorted : bootBuiltins "sorted" = some (.builtin "sorted") := by decide +kernel
theorem bt_int : bootBuiltins "int" = some (.type "int") := by decide +kernel
theorem bt_str : bootBuiltins "str" = some (.type "str") := by decide +kernel
theorem bt_bool : bootBuiltins "bool" = some (.type "bool") := by decide +kernel
theorem bt_list : bootBuiltins "list" = some (.type "list") := by decide +kernel
theorem bt_tuple : bootBuiltins "tuple" = some (.type "tuple") := by decide +kernel
theorem bt_dict : bootBuiltins "dict" = some (.type "dict") := by decide +kernel

/-- a def of the text, known by its name -/
def Dfn (K : PySem.W.Frag) (mg : Str → Option Value) (x : Str) (st : Stmt) (ps : List Str) : Prop := ∃ f fd, L2.Fun K x x st f fd ∧ mg x = some (.ref f) ∧ Binds K fd ps []
/-- what the head tells of it -/
def DefIn (K : PySem.W.Frag) (x : Str) (st : Stmt) : Prop := ∃ (f : Addr) (oc : Value) (od an : Option Addr) (sl : Array (Option Value)) (kV doc pm cd ct : Value),
  PySem.W.nsIn K mainGlobals x = some (some (.ref f)) ∧ K.lookup f = some ⟨oc, od, .func (PySem.W.fnOf x x (defArgs st) (defBody st) (defScope st) .none kV doc pm an cd ct), sl⟩ ∧ PySem.W.codeIn K cd x = true ∧ PySem.W.keepIn K (.ref f) = true
def BindOk (x : Str) (st : Stmt) (ps : List Str) : Prop := ∀ (kV doc pm : Value) (an : Option Addr) (cdv ct : Value) (us : List Value), us.length = ps.length → bindArgs (PySem.W.fnOf x x (defArgs st) (defBody st) (defScope st) .none kV doc pm an cdv ct) ⟨us, []⟩ = pure (ps.zip us)
section
variable {K : PySem.W.Frag} {mg : Str → Option Value} {h : Heap} {x : Str} {st : Stmt} {ps : List Str}
theorem DefIn.dfn (d : DefIn K x st) (X : K.In h) (G : h.Ns mainGlobals mg) (b : BindOk x st ps) : Dfn K mg x st ps := by
  obtain ⟨f, oc, od, an, sl, kV, doc, pm, cd, ct, h1, h2, h3, h4⟩ := d
  have F := fun_mk h2 h3 h4
  exact ⟨f, _, F, PySem.W.mg_of X G h1, F.binds b⟩
end
theorem fnok_mk {TS : TabList} {P : Program} {w : World} {K : PySem.W.Frag} {mg : Str → Option Value} {base : Heap} {x qual : Str} {st : Stmt} {f : Addr} {fd : FuncData} {N ps : List Str} {k : Nat} {F : Frm → Res Fl} (Fn : L2.Fun K x qual st f fd) (S : FnScope N ps (defScope st))
    (body : ∀ (cdv : Value) (A : Around) (outer : List Env) (s : Shared) (H : Hp) (E : XK), Room k (A.deeper (envOfC qual (defScope st) s.heap.objs.size f cdv)) → DSs TS (cxOf (L2.CX P w) P w K mg base N qual (defScope st) f cdv A outer s H E) (defBody st) F) :
    FnOk P w K mg base (L2.CX P w) (k + 1) f fd ps (spD TS K mg (defM ps.length N.length F)) := by
  refine Fun.okX Fn S (fun vs H Q E h => ?_) (fun cdv A outer s H vs Q E hr h => ?_)
  · obtain ⟨G, ds, r, ok, p⟩ := h
    unfold defM at p
    split at p
    · rename_i e
      rw [r.len, e]
    · exact p.elim
  · obtain ⟨G, ds, r, ok, p⟩ := h
    unfold defM at p
    split at p
    · refine ⟨_, pss_wp _ _, body cdv A outer s H E hr (fun cls d _ H => E cls d H) (frm0 N.length ds) (L2.start N vs) G H G H (fun _ => []) _ (takes_of rfl rfl rfl rfl) (SI.start ok r) ?_⟩
      cases hf : F (frm0 N.length ds) with
      | ok fl =>
        rw [hf] at p
        cases fl with
        | next ρ => exact fun σ' G' H' fp' _ s' => p .non G' H' s'.gr .non
        | ret rv =>
          cases rv with
          | val d => exact p
          | own ds => exact p
        | brk ρ => exact p.elim
        | cont ρ => exact p.elim
      | exc c fs =>
        rw [hf] at p
        exact fun C d _ G' H' m g r => p C d G' H' m g r
      | bad =>
        rw [hf] at p
        exact p.elim
    · exact p.elim
theorem known_of {TS : TabList} {P : Program} {w : World} {K : PySem.W.Frag} {mg : Str → Option Value} {base : Heap} {x : Str} {st : Stmt} {N ps : List Str} {k : Nat} {F : Frm → Res Fl} (d : Dfn K mg x st ps) (S : FnScope N ps (defScope st))
    (body : ∀ (f : Addr) (cdv : Value) (A : Around) (outer : List Env) (s : Shared) (H : Hp) (E : XK), Room k (A.deeper (envOfC x (defScope st) s.heap.objs.size f cdv)) → DSs TS (cxOf (L2.CX P w) P w K mg base N x (defScope st) f cdv A outer s H E) (defBody st) F) :
    Known TS P w K mg base (k + 1) x ps (defM ps.length N.length F) := by
  obtain ⟨f, fd, F1, hm, hb⟩ := d
  exact ⟨f, fd, fnok_mk F1 S (body f), hm, F1.kp, hb⟩

/-! ### the law's end -/
def spLaw (K : PySem.W.Frag) : Sp := fun vs H Q _ => ∃ (a : Addr) (ns : List Int), vs = [.ref a] ∧ SqL K H a (ns.map V.int) ∧ ns.length ≤ 63 ∧ Only H ∧ ∀ H', Q (.bl true) H'
def scriptD (ns : List Int) : D := .list (ns.map .int)
theorem rps_ints {K : PySem.W.Frag} {G : Hp} : ∀ ns : List Int, Rps K G (ns.map V.int) (ns.map .int)
  | [] => .nil
  | n :: ns => .cons (.int n) (rps_ints ns)
theorem law_imp {P : Program} {w : World} {K : PySem.W.Frag} {mg : Str → Option Value} {base : Heap} {k : Nat} {f : Addr} {fd : FuncData} {ps : List Str} {m : List D → Res RV} (F : FnOk P w K mg base (L2.CX P w) k f fd ps (spD ⟨[], P, w⟩ K mg m))
    (hm : ∀ ns : List Int, ns.length ≤ 63 → m [scriptD ns] = .ok (.val (.bool true))) : FnOk P w K mg base (L2.CX P w) k f fd ps (spLaw K) := by
  refine F.imp fun vs H Q E h => ?_
  obtain ⟨a, ns, rfl, hs, hl, ho, q⟩ := h
  refine ⟨H, [scriptD ns], .cons (.lst hs (rps_ints ns)) .nil, ⟨Ex.refl H, fun P hP => (by cases hP), fun b o hb => ?_⟩, ?_⟩
  · rcases ho b with z | ⟨ob, xs, z⟩
    · rw [z] at hb
      cases hb
    · rw [z] at hb
      cases hb
      rfl
  · rw [hm ns hl]
    intro v G' H' _ r
    cases r
    exact q H'
theorem law_end {l : PySem.W.OpenLaw} {k : Nat} {q : Program} {loose : List Str} {XP : (Str → Option Value) → Heap → Prop} {YP : World → Heap → Prop} {d : DefRec} {K : Params → PySem.W.Frag} {x : Str}
    (hn : l.most = some 63) (hdf : d.params.defaults = []) (hr : Room k callerA) (hY : ∀ (w : World) (h : Heap), YP w h → (K w.params).In h)
    (F : ∀ (w : World) (mg : Str → Option Value) (fa : Addr) (h : Heap), (K w.params).In h → h.Ns mainGlobals mg → mg d.name = some (.ref fa) →
      ∃ fd : FuncData, (∀ (s : Shared) (u : Value), BindsTo s fd ⟨[u], []⟩ [(x, u)]) ∧ ∀ base : Heap, (K w.params).In base → base.Ns mainGlobals mg → FnOk l.prog w (K w.params) mg base (L2.CX l.prog w) k fa fd [x] (spLaw (K w.params))) :
    PySem.W.WalkO q loose XP YP l.row.toRowW d [] (fun f vs => PySem.call f vs) :=
  L2.walk_of (l := l) (n := 63) (k := k) (x := x) (CX := fun w => L2.CX l.prog w) (sp := fun w => spLaw (K w.params)) hn (by decide) hdf hr hY F (fun w H a ns hl ho hS => ⟨a, ns, rfl, hS, hl, ho, fun _ => rfl⟩) fun w H s e s' h => by
    obtain ⟨_, _, _, _, _, _, _, _, _, _, _, _, z⟩ := h
    exact z
end Pyr

set_option Elab.async false
set_option autoImplicit false
set_option linter.all false
set_option maxRecDepth 100000
set_option maxHeartbeats 1000000
namespace Pyr
open PySem PySem.Spec PyProof.Rows L2 Evl
theorem law_fin {TS : TabList} {P : Program} {w : World} {K : PySem.W.Frag} {mg : Str → Option Value} {h : Heap} {st : Stmt} {fa : Addr} {x : Str} {k : Nat} {m : List D → Res RV} (X : K.In h) (G : h.Ns mainGlobals mg) (hfa : mg "law" = some (.ref fa)) (d : DefIn K "law" st) (b : BindOk "law" st [x])
    (F : ∀ (base : Heap) (f : Addr) (fd : FuncData), L2.Fun K "law" "law" st f fd → FnOk P w K mg base (L2.CX P w) k f fd [x] (spD ⟨[], P, w⟩ K mg m)) (hm : ∀ ns : List Int, ns.length ≤ 63 → m [scriptD ns] = .ok (.val (.bool true))) :
    ∃ fd : FuncData, (∀ (s : Shared) (u : Value), BindsTo s fd ⟨[u], []⟩ [(x, u)]) ∧ ∀ base : Heap, K.In base → base.Ns mainGlobals mg → FnOk P w K mg base (L2.CX P w) k fa fd [x] (spLaw K) := by
  obtain ⟨f, oc, od, an, sl, kV, doc, pm, cd, ct, h1, h2, h3, h4⟩ := d
  have e := hfa.symm.trans (PySem.W.mg_of X G h1)
  cases e
  exact ⟨_, fun s u => .of_eq (b kV doc pm an cd ct [u] rfl), fun base _ _ => law_imp (F base fa _ (fun_mk h2 h3 h4)) hm⟩
end Pyr

set_option Elab.async false
set_option autoImplicit false
set_option linter.all false
set_option maxRecDepth 100000
set_option maxHeartbeats 1000000
namespace Pyr
open PySem PySem.Spec PyProof.Rows L2 Evl
/-! ### running the functions -/
theorem seq_ok {F1 F2 : Frm → Res Fl} {ρ ρ' : Frm} (h : F1 ρ = .ok (.next ρ')) : sSeq F1 F2 ρ = F2 ρ' := by unfold sSeq; rw [h]; rfl
theorem seq_ret {F1 F2 : Frm → Res Fl} {ρ : Frm} {r : RV} (h : F1 ρ = .ok (.ret r)) : sSeq F1 F2 ρ = .ok (.ret r) := by unfold sSeq; rw [h]; rfl
theorem bind_ok {α β : Type} {a : α} {k : α → Res β} : (Res.ok a).bind k = k a := rfl
theorem okL_ok {α : Type} {n : Nat} {r : Res α} (h : n ≤ LIM) : okL n r = r := if_pos h
theorem evP_ok {fe : En → Res D} {ρ : Frm} {d : D} (h : fe (purE ρ) = .ok d) : evP fe ρ = .ok d := by unfold evP; rw [h]
theorem evL_ok {fe : En → Res (List D)} {ρ : Frm} {d : List D} (h : fe (purE ρ) = .ok d) : evL fe ρ = .ok d := by unfold evL; rw [h]
theorem evP_frz {fe : En → Res D} {ρ : Frm} {d : D} (h : fe (purE ρ) = .bad) (h2 : fe (frzE ρ) = .ok d) (hd : flat0 d = true) : evP fe ρ = .ok d := by unfold evP; rw [h, h2]; show (if flat0 d = true then Res.ok d else .bad) = _; rw [if_pos hd]
theorem evT_ok {ft : En → Res Bool} {ρ : Frm} {b : Bool} (h : ft (frzE ρ) = .ok b) : evT ft ρ = .ok b := by unfold evT; rw [h]; rfl
theorem set_ok {i : Nat} {fe : En → Res D} {ρ : Frm} {d : D} (h : fe (purE ρ) = .ok d) : sSet i fe ρ = .ok (.next (ρ.set i (.val d))) := by unfold sSet; rw [evP_ok h]; rfl
theorem setL_ok {i : Nat} {fe : En → Res (List D)} {ρ : Frm} {d : List D} (h : fe (purE ρ) = .ok d) : sSetL i fe ρ = .ok (.next (ρ.set i (.own (.lst d)))) := by unfold sSetL; rw [evL_ok h]; rfl
theorem if_ok {ft : En → Res Bool} {F1 F2 : Frm → Res Fl} {ρ : Frm} {b : Bool} (h : ft (frzE ρ) = .ok b) : sIf ft F1 F2 ρ = if b then F1 ρ else F2 ρ := by unfold sIf; rw [evT_ok h]; rfl
theorem ret_ok {fe : En → Res D} {ρ : Frm} {d : D} (h : fe (purE ρ) = .ok d) : sRet fe ρ = .ok (.ret (.val d)) := by unfold sRet; rw [evP_ok h]; rfl
theorem ret_frz {fe : En → Res D} {ρ : Frm} {d : D} (h : fe (purE ρ) = .bad) (h2 : fe (frzE ρ) = .ok d) (hd : flat0 d = true) : sRet fe ρ = .ok (.ret (.val d)) := by unfold sRet; rw [evP_frz h h2 hd]; rfl
theorem retO_ok {i : Nat} {ρ : Frm} {ds : List D} (h : ρ[i]? = some (Sl.own (.lst ds))) : sRetO i ρ = .ok (.ret (.own ds)) := by unfold sRetO; rw [h]
theorem app_ok {i : Nat} {fe : En → Res D} {ρ : Frm} {ds : List D} {d : D} (h : ρ[i]? = some (Sl.own (.lst ds))) (he : fe (purE ρ) = .ok d) (hl : ds.length + 1 ≤ LIM) : sApp i fe ρ = .ok (.next (ρ.set i (.own (.lst (ds ++ [d]))))) := by unfold sApp; rw [h]; show (evP fe ρ).bind _ = _; rw [evP_ok he]; exact okL_ok hl
theorem for_ok {t : Tg} {fi : En → Res (List D)} {F : Frm → Res Fl} {ρ : Frm} {ds : List D} (h : fi (purE ρ) = .ok ds) : sFor t fi F ρ = forF t F ds ρ := by unfold sFor evI; rw [h]; rfl
theorem forR_ok {t : Tg} {fi : En → Res (List D)} {F : Frm → Res Fl} {ρ : Frm} {ds : List D} (h : fi (frzE ρ) = .ok ds) (hf : ds.all flat0 = true) : sForR t fi F ρ = forF t F ds ρ := by unfold sForR evR; rw [h]; show (if ds.all flat0 = true then Res.ok ds else .bad).bind _ = _; rw [if_pos hf]; rfl
theorem upto_flat : ∀ (n : Nat) (lo : Int), (upto lo n).all flat0 = true
  | 0, _ => rfl
  | n + 1, lo => upto_flat n (lo + 1)
theorem defM_eq {np n : Nat} {F : Frm → Res Fl} {ds : List D} (h : ds.length = np) : defM np n F ds = outR (F (frm0 n ds)) := if_pos h
/-- a comprehension over data whose element is an own function of it -/
theorem compF_map {t : Tg} {tt : En → Res Bool} {fe : En → Res D} {ρ : En} {g : D → D} : ∀ ds : List D, (∀ d ∈ ds, ∃ ρ1, tgE t d ρ = .ok ρ1 ∧ tt ρ1 = .ok true ∧ fe ρ1 = .ok (g d)) → compF t tt fe ρ ds = .ok (ds.map g)
  | [], _ => rfl
  | d :: ds, h => by
    obtain ⟨ρ1, h1, h2, h3⟩ := h d List.mem_cons_self
    show (tgE t d ρ).bind _ = _
    rw [h1]
    show (noX (tt ρ1)).bind _ = _
    rw [h2]
    show (noX (fe ρ1)).bind _ = _
    rw [h3]
    show (compF t tt fe ρ ds).bind _ = _
    rw [compF_map ds fun d hd => h d (List.mem_cons_of_mem _ hd)]
    rfl
theorem strs_map : ∀ ys : List Str, strsD (ys.map .str) = some ys
  | [] => rfl
  | y :: ys => by show (strsD (ys.map .str)).map _ = _; rw [strs_map ys]; rfl
theorem cut_front {α : Type} (xs : List α) (n : Nat) : cutG xs none (some (n : Int)) = xs.take n := by
  unfold cutG
  rw [HT.sIx_none, HT.sIx_nat, List.drop_zero, Nat.sub_zero]
  by_cases h : n ≤ xs.length
  · rw [Nat.min_eq_left h]
  · rw [Nat.min_eq_right (by omega), List.take_of_length_le (by omega), List.take_of_length_le (by omega)]
theorem eqv_str (a b : Str) : PyData.eqv (.str a) (.str b) = decide (a = b) := by
  simp only [PyData.eqv]
  rw [Bool.eq_iff_iff]
  simp
theorem eqv_int (a b : Int) : PyData.eqv (.int a) (.int b) = decide (a = b) := by
  simp only [PyData.eqv]
  rw [Bool.eq_iff_iff]
  simp
theorem eqv_okd {d : D} (h : okd d = true) : PyData.eqv d d = true := PySem.SeqAt.eqv_refl d (okD_flat d 60 h).2.1
theorem eqD_self {d : D} (h : okd d = true) : eqD d d = .ok (.bool true) := by
  unfold eqD
  rw [h, eqv_okd h]
  simp
theorem eqD_str (a b : Str) : eqD (.str a) (.str b) = .ok (.bool (decide (a = b))) := by
  unfold eqD
  rw [eqv_str]
  rfl
theorem eqD_int (a b : Int) : eqD (.int a) (.int b) = .ok (.bool (decide (a = b))) := by
  unfold eqD
  rw [eqv_int]
  rfl
theorem neD_int (a b : Int) : neD (.int a) (.int b) = .ok (.bool (!decide (a = b))) := by
  unfold neD
  rw [eqv_int]
  rfl
theorem neD_str (a b : Str) : neD (.str a) (.str b) = .ok (.bool (!decide (a = b))) := by
  unfold neD
  rw [eqv_str]
  rfl
theorem strOk_app {a b : Str} (ha : PyData.strOk a = true) (hb : PyData.strOk b = true) : PyData.strOk (a ++ b) = true := by
  unfold PyData.strOk at *
  rw [Str.cps_append, Array.all_append, ha, hb]
  rfl
theorem strOk_join {a : Str} (ha : PyData.strOk a = true) : ∀ ys : List Str, (∀ y ∈ ys, PyData.strOk y = true) → PyData.strOk (Str.join a ys) = true
  | [], _ => by simp [PyData.strOk, Str.join, Str.empty]
  | [y], h => h y List.mem_cons_self
  | y :: z :: r, h => strOk_app (strOk_app (h y List.mem_cons_self) ha) (strOk_join ha (z :: r) fun u hu => h u (List.mem_cons_of_mem _ hu))
theorem joinD_ok {a : Str} {ys : List Str} (h : (ys.map (·.length)).sum + ys.length * a.length ≤ LIM) : joinD a (.list (ys.map .str)) = .ok (.str (Str.join a ys)) := by
  show joinS a (ys.map .str) = _
  unfold joinS
  rw [strs_map]
  show (if (ys.map (·.length)).sum + ys.length * a.length ≤ LIM then Res.ok (PyData.str (Txt.join a ys)) else .bad) = _
  rw [if_pos h, TL.join_eq]
theorem sum_le {n : Nat} : ∀ xs : List Nat, (∀ x ∈ xs, x ≤ n) → xs.sum ≤ xs.length * n
  | [], _ => Nat.zero_le _
  | x :: xs, h => by
    rw [List.sum_cons, List.length_cons, Nat.succ_mul]
    have := h x List.mem_cons_self
    have := sum_le xs fun y hy => h y (List.mem_cons_of_mem _ hy)
    omega
theorem okDs_all {n : Nat} : ∀ ds : List D, (∀ d ∈ ds, okD n d = true) → okDs n ds = true
  | [], _ => by simp [okDs]
  | d :: ds, h => by
    rw [okDs, h d List.mem_cons_self, okDs_all ds fun z hz => h z (List.mem_cons_of_mem _ hz)]
    rfl
theorem r1D_nat {n : Nat} (h : n ≤ LIM) : r1D (.int n) = .ok (upto 0 n) := by
  have h : n ≤ 100000 := h
  have e : -(2 ^ 62) ≤ (n : Int) ∧ (n : Int) < 2 ^ 62 := by omega
  simp only [r1D, if_pos e, Int.toNat_natCast]
theorem at_str {x : Str} {k : Nat} {c : Nat} (h : x.cps.toList[k]? = some c) (hl : x.length ≤ LIM) : atD (.str x) (.int (k : Int)) = .ok (.str ⟨#[c]⟩) := by
  unfold atD
  simp only [okL_ok hl, atI_nat h]
theorem at_list {xs : List D} {k : Nat} {d : D} (h : xs[k]? = some d) : atD (.list xs) (.int (k : Int)) = .ok d := by
  unfold atD
  simp only [atI_nat h]
theorem at_tup {xs : List D} {k : Nat} {d : D} (h : xs[k]? = some d) : atD (.tuple xs) (.int (k : Int)) = .ok d := by
  unfold atD
  simp only [atI_nat h]
theorem forF_next {t : Tg} {F : Frm → Res Fl} {d : D} {ds : List D} {ρ ρ1 ρ2 : Frm} (h : tgF t d ρ = .ok ρ1) (hb : F ρ1 = .ok (.next ρ2)) : forF t F (d :: ds) ρ = forF t F ds ρ2 := by
  show (tgF t d ρ).bind _ = _
  rw [h]
  show (F ρ1).bind _ = _
  rw [hb]
  rfl
theorem forF_cont {t : Tg} {F : Frm → Res Fl} {d : D} {ds : List D} {ρ ρ1 ρ2 : Frm} (h : tgF t d ρ = .ok ρ1) (hb : F ρ1 = .ok (.cont ρ2)) : forF t F (d :: ds) ρ = forF t F ds ρ2 := by
  show (tgF t d ρ).bind _ = _
  rw [h]
  show (F ρ1).bind _ = _
  rw [hb]
  rfl
theorem forF_brk {t : Tg} {F : Frm → Res Fl} {d : D} {ds : List D} {ρ ρ1 ρ2 : Frm} (h : tgF t d ρ = .ok ρ1) (hb : F ρ1 = .ok (.brk ρ2)) : forF t F (d :: ds) ρ = .ok (.next ρ2) := by
  show (tgF t d ρ).bind _ = _
  rw [h]
  show (F ρ1).bind _ = _
  rw [hb]
  rfl
theorem forF_ret {t : Tg} {F : Frm → Res Fl} {d : D} {ds : List D} {ρ ρ1 : Frm} {r : RV} (h : tgF t d ρ = .ok ρ1) (hb : F ρ1 = .ok (.ret r)) : forF t F (d :: ds) ρ = .ok (.ret r) := by
  show (tgF t d ρ).bind _ = _
  rw [h]
  show (F ρ1).bind _ = _
  rw [hb]
  rfl
end Pyr

set_option Elab.async false
set_option autoImplicit false
set_option linter.all false
set_option maxRecDepth 100000
set_option maxHeartbeats 2000000
namespace Pyr
open PySem PySem.Spec PyProof.Rows L2 Evl

/-! ### any, all of a generator expression -/
abbrev gxX (X : Cx) (A' : Around) (s : Shared) (H : Hp) (cenv : Env) (fp : List Addr) (pn : List (Addr × Obj)) : Cx :=
  { X with A := A', s_0 := s, H_0 := H, env := cenv, outer := X.stack, stack := cenv :: X.stack, ex := fp, fn := fun _ => false, pn := pn, xe := fun _ _ => False }
abbrev gxE (X : Cx) (scope : Scope) (cl : List (Str × Addr)) (C : Addr) (code : Value) : Env := genEnv scope cl C code builtinsNs X.env
theorem inv_gens {X : Cx} {pins : List (Addr × Obj)} {σ : L2.St} {H : Hp} {s : Shared} (I : Inv X pins σ H s) {s' : Shared} (hh : s'.heap = s.heap) (ho : s'.os = s.os) (hb : AllBare s'.gens) : Inv X pins σ H s' := by
  obtain ⟨h, g, d, t, o⟩ := s'
  have hh : h = s.heap := hh
  have ho : o = s.os := ho
  subst hh
  subst ho
  exact ⟨I.ok, I.os, hb, I.base, I.loc, I.cell, I.free, I.freeC, I.pin, I.hok, I.len⟩
/-! what a generator expression's frame sees of the def's -/
/-- the captured cells: exactly the def's -/
structure Caught (scope : Scope) (old new : List (Str × Addr)) : Prop where
  old : ∀ y c, new.lookup y = some c → old.lookup y = some c
  has : ∀ y, scope.names.lookup y = some .free → ∃ c, new.lookup y = some c
section
variable {X : Cx} {pins : List (Addr × Obj)} {σ : L2.St} {H : Hp} {s : Shared} {scope : Scope} {own : List (Str × Nat)} {fp : List Addr}
theorem all_caught (I : Inv X pins σ H s) (ok : BlkOk X.N X.env.scope scope own) (y : Str × NameKind) (hy : y ∈ scope.names) (e : y.2 = .free) : ∃ c, X.env.cells.lookup y.1 = some c :=
  I.ok.has y.1 (ok.free y hy e)
theorem caught_of (I : Inv X pins σ H s) (ok : BlkOk X.N X.env.scope scope own) : Caught scope X.env.cells (cloFrom X.env.cells scope.names []) where
  old := fun y c e => (cloFrom_mem (PySem.mem_of_lookup e)).elim (fun z => nomatch z) fun ⟨m, e2⟩ => by
    obtain ⟨c', hc⟩ := all_caught I ok (y, .free) m rfl
    rw [e2, hc, Option.getD_some]
  has := fun y e => mem_lookup (cloFrom_has (acc := []) (PySem.mem_of_lookup e))
/-- a name of the scope that stands in a slot that is not wiped is captured -/
theorem free_of (ok : BlkOk X.N X.env.scope scope own) (hN : X.N.Nodup) {i : Nat} {y : Str} {v : V} (hi : X.N[i]? = some y) (hv : (wipe σ (own.map (·.2)))[i]? = some (some v)) (h : Vis scope y) : scope.names.lookup y = some .free := by
  have key : ∀ k, scope.names.lookup y = some k → k = .local ∨ k = .cell → False := fun k e hk => (ok.own (y, k) (PySem.mem_of_lookup e) hk).elim
    (fun m => by
      obtain ⟨q, q1, q2⟩ := List.mem_map.mp m
      have q3 : X.N[q.2]? = some y := (ok.ix q q1).trans (congrArg some q2)
      exact (wipe_some hv).2 (nodup_ix hN q3 hi ▸ List.mem_map_of_mem q1))
    fun m => m (List.mem_of_getElem? hi)
  exact h.elim (fun e => (key _ e (.inl rfl)).elim) fun h => h.elim (fun e => (key _ e (.inr rfl)).elim) id
theorem gx_ok {A' : Around} {cenv : Env} {pn : List (Addr × Obj)} (I : Inv X pins σ H s) (ok : BlkOk X.N X.env.scope scope own) (hcell : ∀ y ∈ scope.names, y.2 ≠ .cell) (hfp : ∀ b ∈ fp, FpOk X pins H b ∧ b < s.heap.objs.size) (hA : A'.handled = none) (hfr : A'.frames = some (cenv :: X.stack))
    (e1 : cenv.scope = scope) (e2 : cenv.globals = X.env.globals) (e3 : cenv.builtins = builtinsNs) (e4 : cenv.locals = s.heap.objs.size) (e5 : cenv.frame = some s.heap.objs.size) (ca : Caught scope X.env.cells cenv.cells) : (gxX X A' s H cenv fp pn).Ok where
  mod := I.ok.mod
  kind := (congrArg Scope.kind e1).trans ok.kind
  glob := e2.trans I.ok.glob
  blt := e3
  above := Nat.le_of_eq e4.symm
  inj := fun x y c h1 h2 => I.ok.inj x y c (ca.old x c h1) (ca.old y c h2)
  has := fun y h => by
    have h : scope.names.lookup y = some .cell ∨ scope.names.lookup y = some .free := by rw [← e1]; exact h
    exact h.elim (fun e => (hcell _ (PySem.mem_of_lookup e) rfl).elim) (ca.has y)
  cab := fun y c z => nomatch (show false = true from z)
  hd := fun _ => hA
  frames := hfr
  stk := .inr ⟨rfl, e5.trans (congrArg some e4.symm)⟩
  exf := fun b hb => ⟨fun z => Nat.lt_irrefl _ (e4 ▸ z ▸ (hfp b hb).2), fun y c e => (hfp b hb).1.2.2.2.2.1 y c (ca.old y c e)⟩
  bs := I.bs
  bsz := Nat.le_trans I.ok.bsz I.sz
  noex := fun b o e hb => ((hfp b hb).1.2.2.2.1).elim (I.ok.noex b o e) fun z => Nat.not_lt.mpr (Nat.le_trans I.ok.bsz z) (Heap.lt_size e)
  exfs := fun b hb z => (List.mem_cons.mp (I.stkSub b z)).elim (hfp b hb).1.2.1 (hfp b hb).1.2.2.1
  funs := I.stack
  frf := I.stkFree
theorem gx_start {A' : Around} {code it : Value} {h' : Heap} {gobj : Obj} {gens' : Array GenState} {tk : Nat} (I : Inv X pins σ H s) (ok : BlkOk X.N X.env.scope scope own) (hN : X.N.Nodup) (hcell : ∀ y ∈ scope.names, y.2 ≠ .cell)
    (hfp : ∀ b ∈ fp, FpOk X pins H b ∧ b < s.heap.objs.size) (hA : A'.handled = none) (hfr : A'.frames = some (gxE X scope (cloFrom X.env.cells scope.names []) s.heap.objs.size code :: X.stack)) (hgob : ∀ v, gobj.data ≠ .cell v) (hgf : gobj.isFreed = false)
    (hn' : h'.Ns s.heap.objs.size (fun y => if y = ".0" then some it else none)) (hs' : Heap.SameBut s.heap.objs.size (s.heap.push { cls := .type "frame", data := .dict #[] }) h') (hdot : (".0" : Str) ∉ X.N) (hgb : AllBare gens') :
    Inv (gxX X A' s H (gxE X scope (cloFrom X.env.cells scope.names []) s.heap.objs.size code) fp [(h'.objs.size, gobj)]) [] (wipe σ (own.map (·.2))) H { s with gens := gens', toks := tk, heap := h'.push gobj } := by
  have ca := caught_of I ok
  have hsz : h'.objs.size = s.heap.objs.size + 1 := hs'.1.trans (Heap.size_push ..)
  have old : ∀ b o, s.heap.get? b = some o → (h'.push gobj).get? b = some o := fun b o e => Heap.get?_push_of_some _ (hs'.extBut b o (Nat.ne_of_lt (Heap.lt_size e)) (Heap.get?_push_of_some _ e))
  exact {
    ok := gx_ok I ok hcell hfp hA hfr rfl rfl rfl rfl rfl ca
    os := rfl
    bare := hgb
    base := Un.kept old
    loc := ⟨_, hn'.push _, fun i y v hi hv hy => by
      have fr := free_of ok hN hi hv hy
      obtain ⟨m, _, see⟩ := I.loc
      have cf := ok.free _ (PySem.mem_of_lookup fr) rfl
      obtain ⟨u, ru, lk⟩ := see i y v hi (wipe_some hv).1 (.inr cf)
      obtain ⟨c, c1⟩ := ca.has y fr
      refine ⟨u, ru, .inr ⟨.inr fr, c, c1, ?_⟩⟩
      cases lk with
      | inl z => exact cf.elim (fun k => nomatch (show some NameKind.local = some .cell from z.1.symm.trans k)) fun k => nomatch (show some NameKind.local = some .free from z.1.symm.trans k)
      | inr z =>
        obtain ⟨_, c2, e2, cell⟩ := z
        have e3 : some c = some c2 := (ca.old y c c1).symm.trans e2
        cases e3
        exact cell.keeps old⟩
    cell := fun y c e => (I.cell y c (ca.old y c e)).imp fun _ z => z.keeps old
    free := I.hok.fresh (Nat.le_refl _)
    freeC := fun y c e => I.freeC y c (ca.old y c e)
    pin := fun p hp => by
      obtain rfl : p = (h'.objs.size, gobj) := by simpa using hp
      have le : s.heap.objs.size ≤ h'.objs.size := Nat.le.intro hsz.symm
      refine ⟨Heap.get?_push_size _ hgf, I.hok.fresh le, fun z => Nat.succ_ne_self s.heap.objs.size (hsz.symm.trans z), fun z => ?_, hgob⟩
      exact (List.mem_cons.mp (I.stkSub _ z)).elim (fun e => Nat.not_lt.mpr le (Nat.lt_of_le_of_lt (Nat.le_of_eq e) I.lt)) (I.nofs le)
    hok := I.hok.kept old
    len := (L2.wipe_length σ _).trans I.len }
end
/-- any (isAll = false), all (isAll = true); W by the turn and a measure -/
def tGx (P : Addr) (isAll : Bool) (wi : TI) (g : TG) (tt : TT) (te : TE) (vs : List Nat) : TE := fun σ H Q => wi σ H fun J H1 => GxR.TabG H1 P ∧ ∀ H1', GxR.Tabbed P H1 H1' → ∃ W : Nat → Nat → Hp → Prop, (∃ m, W 0 m H1') ∧ ∀ i m H, W i m H →
  (J.stop i H ∧ Q (.bl isAll) H) ∨ (J.go i H ∧ ∃ Nx : Hp → Prop, (∀ H', Nx H' → ∃ m', m' < m ∧ W (i + 1) m' H') ∧ ∀ x H', J.yld i H x H' → g x (wipe σ vs) H' fun σ2 H2 => wipe σ2 vs = wipe σ vs ∧ tt σ2 H2 fun b H3 =>
    if b = true then te σ2 H3 fun y H4 => ∃ c, y = .bl c ∧ (if c = isAll then Nx H4 else Q (.bl c) H4) else Nx H3)
/-- an item comes out: it goes on, or the walk ends with it -/
def gxY (Y : Cx) (isAll : Bool) (Q : VK) : Protocol := fun n s₀ v s kap => ∃ (c : Bool) (σ : L2.St) (H : Hp) (pl : List (Addr × Obj)), v = .bool c ∧ Inv Y pl σ H s ∧ if c = isAll then ∀ s', s'.heap = s.heap → s'.os = s.os → AllBare s'.gens → kap (.send .none) s' else Q (.bl c) H
def gxR (Y : Cx) (isAll : Bool) (Q : VK) : GenEnd := fun n s₀ r s => r = .ok .next ∧ ∃ (σ : L2.St) (H : Hp) (pl : List (Addr × Obj)), Inv Y pl σ H s ∧ Q (.bl isAll) H
section
variable {Y : Cx} {B : Around} {elt tg iter : Expr} {ifs : List Expr} {scope : Scope} {pos : Pos} {it : Addr} {fp : List Addr} {tn : Nat → Heap → Prop} {J : It} {g : TG} {tt : TT} {te : TE} {vs : List Nat} {σ : L2.St} {Q : VK} {isAll : Bool} {W : Nat → Nat → Hp → Prop}
theorem pin_stay {b : Addr} {o : Obj} {h : Heap} {σ' : L2.St} {H' : Hp} {s' : Shared} (I : Inv Y ([] ++ pinsAt fp h) σ' H' s') (hb : b ∈ fp) (e : h.get? b = some o) : s'.heap.get? b = some o ∧ H' b = none :=
  (I.pin (b, o) (List.mem_append.mpr (.inr (List.mem_append.mpr (.inr (mem_pinsAt hb e)))))).imp id And.left
theorem gx_loop (hc : Y.calm = true) (hYA : Y.A = B.over (.compLoop (.GeneratorExp elt [⟨tg, iter, ifs, 0⟩] scope pos) 0 (.ref it) .none Y.env) []) (hex : Y.ex = fp) (hxe : Y.xe = fun _ _ => False) (hco : Y.env.scope.isCoroutine = false) (hpn : ∀ p ∈ Y.pn, p.1 ∉ fp)
    (T : Turn Y.prog Y.w Y.K tg J fp it tn) (hg : PG Y tg g) (ht : PTs Y ifs tt) (he : PE Y elt te)
    (turn : ∀ i m H, W i m H → (J.stop i H ∧ Q (.bl isAll) H) ∨ (J.go i H ∧ ∃ Nx : Hp → Prop, (∀ H', Nx H' → ∃ m', m' < m ∧ W (i + 1) m' H') ∧ ∀ x H', J.yld i H x H' → g x (wipe σ vs) H' fun σ2 H2 => wipe σ2 vs = wipe σ vs ∧ tt σ2 H2 fun b H3 =>
      if b = true then te σ2 H3 fun y H4 => ∃ c, y = .bl c ∧ (if c = isAll then Nx H4 else Q (.bl c) H4) else Nx H3)) :
    ∀ (m n : Nat) (i : Nat) (H : Hp) (s₀ s : Shared), m < n → Inv Y [] (wipe σ vs) H s → tn i s.heap → (∀ b ∈ fp, H b = none) → W i m H →
      Seg (model Y.prog Y.w) B (gxR Y isAll Q) (gxY Y isAll Q) n s₀ (.compLoop (.GeneratorExp elt [⟨tg, iter, ifs, 0⟩] scope pos) 0 (.ref it) .none Y.env)
        ((model Y.prog Y.w).den (.compLoop (.GeneratorExp elt [⟨tg, iter, ifs, 0⟩] scope pos) 0 (.ref it) .none Y.env)) [] s := by
  have stat : ∀ {σ' : L2.St} {H' : Hp} {s' : Shared}, Inv Y [] σ' H' s' → (∀ b ∈ fp, H' b = none) → ∀ b ∈ fp, FpOk Y [] H' b := fun {σ' H' s'} I' hn b hb =>
    have hb' : b ∈ Y.ex := by rw [hex]; exact hb
    ⟨hn b hb, (I'.ok.exf b hb').1, I'.ok.exfs b hb', .inl hb', fun x c e => (I'.ok.exf b hb').2 x c e, fun p hp z => by
      rw [List.append_nil] at hp
      exact hpn p hp (by rw [z]; exact hb)⟩
  have noX : ∀ {α : Type} {t : Sem α} {Q' : α → Shared → Prop} {s' : Shared}, wpAny (model Y.prog Y.w) Y.A t Q' Y.xe s' → wpAny (model Y.prog Y.w) Y.A t Q' (fun _ _ => False) s' := fun h => by
    rw [hxe] at h
    exact h
  intro m
  induction m using Nat.strongRecOn with
  | ind m ih =>
    intro n i H s₀ s hmn I st hn w
    show Seg _ B _ _ _ s₀ _ ((compTurn (.GeneratorExp elt [⟨tg, iter, ifs, 0⟩] scope pos) 0 (.ref it) .none Y.env).onRaise (leaving Y.env)) [] s
    rw [compTurn_gen, Sem.onRaise_eq_wrap]
    refine seg_bind_wrap (wpAny_standAt ?_)
    rcases turn i m H w with ⟨stop, qq⟩ | ⟨go, Nx, hNx, step⟩
    · refine seg_bind_wrap ?_
      rw [← hYA]
      refine thnF (T.done Y rfl rfl rfl hc i [] s _ H (fun _ _ => False) I (stat I hn) st stop) fun r s1 ⟨hr, I1⟩ => ?_
      subst hr
      exact seg_end (.ok .next) ⟨rfl, _, _, _, I1, qq⟩
    · refine seg_bind_wrap ?_
      rw [← hYA]
      refine thnF (T.item Y rfl rfl rfl hc i [] s _ H (fun _ _ => False) I (stat I hn) st go) fun r s1 ⟨u, hr, h1⟩ => ?_
      subst hr
      refine seg_bind_wrap ?_
      rw [← hYA]
      refine thnF h1 fun _ s2 ⟨x, H2, I2, r2, y2, st2, n2⟩ => ?_
      have I2' := I2.pinned (stat I2 n2) (T.obj _ _ st2)
      refine seg_bind_wrap ?_
      rw [← hYA]
      refine thnF (noX (hg.run _ s2 _ H2 x u _ I2' r2 (step x H2 y2))) fun _ s3 ⟨σ3, H3, I3, hw3, q3⟩ => ?_
      refine seg_bind_wrap ?_
      rw [← hYA]
      refine thnF (noX (ht.run _ s3 σ3 H3 _ I3 q3)) fun b s4 ⟨H4, I4, q4⟩ => ?_
      have fin : ∀ {n' : Nat} {s₁ s' : Shared} {H' : Hp}, m ≤ n' → Inv Y ([] ++ pinsAt fp s2.heap) σ3 H' s' → Nx H' →
          Seg (model Y.prog Y.w) B (gxR Y isAll Q) (gxY Y isAll Q) n' s₁ (.compLoop (.GeneratorExp elt [⟨tg, iter, ifs, 0⟩] scope pos) 0 (.ref it) .none Y.env)
            ((model Y.prog Y.w).den (.compLoop (.GeneratorExp elt [⟨tg, iter, ifs, 0⟩] scope pos) 0 (.ref it) .none Y.env)) [] s' := fun {n' s₁ s' H'} hn' I' nx => by
        obtain ⟨mm, lt, w'⟩ := hNx H' nx
        have hl : (wipe σ vs).length = σ3.length := by rw [← hw3, L2.wipe_length]
        refine ih mm lt n' (i + 1) H' s₁ s' (by omega) ((I'.unpinned (pins := [])).weak hl (fun j v e => ?_)) (T.keep _ _ _ st2 fun b hb o e => (pin_stay I' hb e).1) (fun b hb => ?_) w'
        · rw [← hw3] at e
          exact (wipe_some e).1
        · obtain ⟨o, e, _⟩ := T.obj _ _ st2 b hb
          exact (pin_stay I' hb e).2
      cases b with
      | false =>
        simp only [Bool.false_eq_true, if_false] at q4 ⊢
        exact seg_again rfl (fin (by omega) I4 q4)
      | true =>
        simp only [if_true] at q4 ⊢
        have hy : ∀ v, yieldOut Y.env v = yieldValue v := fun v => by simp only [yieldOut, hco, Bool.false_eq_true, if_false]
        simp only [hy]
        rw [Sem.bind_eq_wrap', Sem.bind_eq_wrap', Sem.wrap_wrap, Sem.wrap_wrap]
        refine seg_wrap ?_
        rw [← hYA]
        refine thnF (noX (he.run _ s4 σ3 H4 _ I4 q4)) fun z s5 ⟨yv, H5, I5, r5, c, hyc, q5⟩ => ?_
        subst hyc
        cases r5
        obtain ⟨n', rfl⟩ : ∃ n', n = n' + 1 := ⟨n - 1, by omega⟩
        refine seg_at (seg_yield rfl rfl rfl ⟨c, σ3, H5, _, rfl, I5, ?_⟩)
        split at q5
        · rename_i hcA
          rw [if_pos hcA]
          intro s' hh ho hb
          exact seg_again rfl (fin (by omega) (inv_gens I5 hh ho hb) q5)
        · rename_i hcA
          rw [if_neg hcA]
          exact q5
end
end Pyr

set_option Elab.async false
set_option autoImplicit false
set_option linter.all false
set_option maxRecDepth 100000
set_option maxHeartbeats 2000000
namespace Pyr
open PySem PySem.Spec PyProof.Rows L2 Evl
theorem gx_drain_all {Y : Cx} {A1 : Around} {a : Addr} {g : Nat} {Q : VK} {R : Result → Shared → Prop} (hh : A1.handled = none) (hd : A1.depth < recursionLimit) (hY : ∀ (pl : List (Addr × Obj)) (σ : L2.St) (H : Hp) (s : Shared), Inv Y pl σ H s → s.heap.IsGen a g)
    (hR : ∀ (c : Bool) (pl : List (Addr × Obj)) (σ : L2.St) (H : Hp) (s : Shared) (h' : Heap) (gens' : Array GenState), Inv Y pl σ H s → Q (.bl c) H → AllBare gens' → (∀ b o, s.heap.get? b = some o → h'.get? b = some o) → R (.ok (.ret (.bool c))) { s with heap := h', gens := gens' }) :
    ∀ (n : Nat) (s : Shared), s.heap.IsGen a g → s.heap.NoLimit →
      (∃ gs, s.gens[g]? = some gs ∧ gs.Goes (model Y.prog Y.w) A1.in1.in1 (gxR Y true Q) (gxY Y true Q) n (.send .none) (s.setGen g .running)) →
      codeAny (model Y.prog Y.w) A1 (.builtin "all.loop" ⟨[.ref a], []⟩) R s := by
  intro n
  induction n with
  | zero =>
    intro s hg hl ⟨gs, hgs, hgo⟩
    refine codeAny_builtin F.entry_all_loop ?_
    rw [Around.under_plainId F.plain_all_loop _]
    show wpAny _ A1.in1 (pyNext (.ref a) >>= _) _ _ s
    refine wpAny_bind (wpAny_pyNext_genexpQ (A := A1.in1) (P := fun n s₀ s₁ => ∃ (σ : L2.St) (H : Hp) (pl : List (Addr × Obj)), Inv Y pl σ H s₁ ∧ Q (.bl true) H) hh hl hd hg hgs hgo (fun v s₁ gs' hb hv => ?_) (fun s₁ hp h' hk => ?_))
    · obtain ⟨c, σ, H, pl, rfl, I, q⟩ := hv
      refine wpAny_bind (wpAny_holding (wpAny_truthy_bool ?_))
      refine wpAny_bind (wpAny_letGo ?_)
      by_cases hc : c = true
      · rw [if_pos hc] at q
        exact (q s₁ rfl rfl I.bare).elim
      · rw [if_neg hc] at q
        have e : c = !true := by cases c <;> simp_all
        subst e
        simp only [Bool.not_true, Bool.not_false, if_true, Bool.false_eq_true, if_false]
        refine wpAny_bind (wpAny_rule (wpAny_pure ?_))
        exact hR _ pl σ H s₁ s₁.heap (s₁.setGen g gs').gens I q (allBare_setGen I.bare hb) fun _ _ z => z
    · obtain ⟨σ, H, pl, I, q⟩ := hp
      refine wpAny_bind (wpAny_rule (wpAny_pure ?_))
      exact hR true pl σ H s₁ h' (s₁.setGen g .finished).gens I q (allBare_setGen I.bare rfl) hk
  | succ m ih =>
    intro s hg hl ⟨gs, hgs, hgo⟩
    have gIn : g < s.gens.size := (Array.getElem?_eq_some_iff.mp hgs).1
    refine codeAny_builtin F.entry_all_loop ?_
    rw [Around.under_plainId F.plain_all_loop _]
    show wpAny _ A1.in1 (pyNext (.ref a) >>= _) _ _ s
    refine wpAny_bind (GenW.wpAny_gsz (n := g + 1) gIn (wpAny_pyNext_genexpQ (A := A1.in1) (P := fun n s₀ s₁ => ∃ (σ : L2.St) (H : Hp) (pl : List (Addr × Obj)), Inv Y pl σ H s₁ ∧ Q (.bl true) H) hh hl hd hg hgs hgo (fun v s₁ gs' hb hv => ?_) (fun s₁ hp h' hk => ?_)))
    · intro hsz
      have gIn1 : g < s₁.gens.size := by
        have q : (s₁.setGen g gs').gens.size = s₁.gens.size := GenW.setGen_size _ _ _
        have more : g + 1 ≤ (s₁.setGen g gs').gens.size := hsz
        omega
      obtain ⟨c, σ, H, pl, rfl, I, q⟩ := hv
      refine wpAny_bind (wpAny_holding (wpAny_truthy_bool ?_))
      refine wpAny_bind (wpAny_letGo ?_)
      by_cases hc : c = true
      · rw [if_pos hc] at q
        subst hc
        simp only [if_true, Bool.false_eq_true, if_false]
        refine wpAny_pure ⟨plainId_quiet F.plain_all_loop _, ?_⟩
        exact ih (s₁.setGen g gs') (hY pl σ H s₁ I) I.nolimit ⟨gs', setGen_at gIn1, q _ rfl rfl (allBare_setGen (s := s₁.setGen g gs') (allBare_setGen I.bare hb) rfl)⟩
      · rw [if_neg hc] at q
        have e : c = !true := by cases c <;> simp_all
        subst e
        simp only [Bool.not_true, Bool.not_false, if_true, Bool.false_eq_true, if_false]
        refine wpAny_bind (wpAny_rule (wpAny_pure ?_))
        exact hR _ pl σ H s₁ s₁.heap (s₁.setGen g gs').gens I q (allBare_setGen I.bare hb) fun _ _ z => z
    · intro _
      obtain ⟨σ, H, pl, I, q⟩ := hp
      refine wpAny_bind (wpAny_rule (wpAny_pure ?_))
      exact hR true pl σ H s₁ h' (s₁.setGen g .finished).gens I q (allBare_setGen I.bare rfl) hk
theorem gx_drain_any {Y : Cx} {A1 : Around} {a : Addr} {g : Nat} {Q : VK} {R : Result → Shared → Prop} (hh : A1.handled = none) (hd : A1.depth < recursionLimit) (hY : ∀ (pl : List (Addr × Obj)) (σ : L2.St) (H : Hp) (s : Shared), Inv Y pl σ H s → s.heap.IsGen a g)
    (hR : ∀ (c : Bool) (pl : List (Addr × Obj)) (σ : L2.St) (H : Hp) (s : Shared) (h' : Heap) (gens' : Array GenState), Inv Y pl σ H s → Q (.bl c) H → AllBare gens' → (∀ b o, s.heap.get? b = some o → h'.get? b = some o) → R (.ok (.ret (.bool c))) { s with heap := h', gens := gens' }) :
    ∀ (n : Nat) (s : Shared), s.heap.IsGen a g → s.heap.NoLimit →
      (∃ gs, s.gens[g]? = some gs ∧ gs.Goes (model Y.prog Y.w) A1.in1.in1 (gxR Y false Q) (gxY Y false Q) n (.send .none) (s.setGen g .running)) →
      codeAny (model Y.prog Y.w) A1 (.builtin "any.loop" ⟨[.ref a], []⟩) R s := by
  intro n
  induction n with
  | zero =>
    intro s hg hl ⟨gs, hgs, hgo⟩
    refine codeAny_builtin F.entry_any_loop ?_
    rw [Around.under_plainId F.plain_any_loop _]
    show wpAny _ A1.in1 (pyNext (.ref a) >>= _) _ _ s
    refine wpAny_bind (wpAny_pyNext_genexpQ (A := A1.in1) (P := fun n s₀ s₁ => ∃ (σ : L2.St) (H : Hp) (pl : List (Addr × Obj)), Inv Y pl σ H s₁ ∧ Q (.bl false) H) hh hl hd hg hgs hgo (fun v s₁ gs' hb hv => ?_) (fun s₁ hp h' hk => ?_))
    · obtain ⟨c, σ, H, pl, rfl, I, q⟩ := hv
      refine wpAny_bind (wpAny_holding (wpAny_truthy_bool ?_))
      refine wpAny_bind (wpAny_letGo ?_)
      by_cases hc : c = false
      · rw [if_pos hc] at q
        exact (q s₁ rfl rfl I.bare).elim
      · rw [if_neg hc] at q
        have e : c = !false := by cases c <;> simp_all
        subst e
        simp only [Bool.not_true, Bool.not_false, if_true, Bool.false_eq_true, if_false]
        refine wpAny_bind (wpAny_rule (wpAny_pure ?_))
        exact hR _ pl σ H s₁ s₁.heap (s₁.setGen g gs').gens I q (allBare_setGen I.bare hb) fun _ _ z => z
    · obtain ⟨σ, H, pl, I, q⟩ := hp
      refine wpAny_bind (wpAny_rule (wpAny_pure ?_))
      exact hR false pl σ H s₁ h' (s₁.setGen g .finished).gens I q (allBare_setGen I.bare rfl) hk
  | succ m ih =>
    intro s hg hl ⟨gs, hgs, hgo⟩
    have gIn : g < s.gens.size := (Array.getElem?_eq_some_iff.mp hgs).1
    refine codeAny_builtin F.entry_any_loop ?_
    rw [Around.under_plainId F.plain_any_loop _]
    show wpAny _ A1.in1 (pyNext (.ref a) >>= _) _ _ s
    refine wpAny_bind (GenW.wpAny_gsz (n := g + 1) gIn (wpAny_pyNext_genexpQ (A := A1.in1) (P := fun n s₀ s₁ => ∃ (σ : L2.St) (H : Hp) (pl : List (Addr × Obj)), Inv Y pl σ H s₁ ∧ Q (.bl false) H) hh hl hd hg hgs hgo (fun v s₁ gs' hb hv => ?_) (fun s₁ hp h' hk => ?_)))
    · intro hsz
      have gIn1 : g < s₁.gens.size := by
        have q : (s₁.setGen g gs').gens.size = s₁.gens.size := GenW.setGen_size _ _ _
        have more : g + 1 ≤ (s₁.setGen g gs').gens.size := hsz
        omega
      obtain ⟨c, σ, H, pl, rfl, I, q⟩ := hv
      refine wpAny_bind (wpAny_holding (wpAny_truthy_bool ?_))
      refine wpAny_bind (wpAny_letGo ?_)
      by_cases hc : c = false
      · rw [if_pos hc] at q
        subst hc
        simp only [if_true, Bool.false_eq_true, if_false]
        refine wpAny_pure ⟨plainId_quiet F.plain_any_loop _, ?_⟩
        exact ih (s₁.setGen g gs') (hY pl σ H s₁ I) I.nolimit ⟨gs', setGen_at gIn1, q _ rfl rfl (allBare_setGen (s := s₁.setGen g gs') (allBare_setGen I.bare hb) rfl)⟩
      · rw [if_neg hc] at q
        have e : c = !false := by cases c <;> simp_all
        subst e
        simp only [Bool.not_true, Bool.not_false, if_true, Bool.false_eq_true, if_false]
        refine wpAny_bind (wpAny_rule (wpAny_pure ?_))
        exact hR _ pl σ H s₁ s₁.heap (s₁.setGen g gs').gens I q (allBare_setGen I.bare hb) fun _ _ z => z
    · intro _
      obtain ⟨σ, H, pl, I, q⟩ := hp
      refine wpAny_bind (wpAny_rule (wpAny_pure ?_))
      exact hR false pl σ H s₁ h' (s₁.setGen g .finished).gens I q (allBare_setGen I.bare rfl) hk
end Pyr

set_option Elab.async false
set_option autoImplicit false
set_option linter.all false
set_option maxRecDepth 100000
set_option maxHeartbeats 2000000
namespace Pyr
open PySem PySem.Spec PyProof.Rows L2 Evl

def GxReady (X : Cx) (pins : List (Addr × Obj)) (σ : L2.St) (isAll : Bool) (Q : VK) (a : Addr) (s5 : Shared) : Prop :=
  ∃ (A' : Around) (s4 : Shared) (H4 : Hp) (cenv : Env) (fp : List Addr) (pn : List (Addr × Obj)) (gi n : Nat), s5.heap.IsGen a gi ∧ s5.heap.NoLimit ∧
    (∃ gs, s5.gens[gi]? = some gs ∧ gs.Goes (model X.prog X.w) X.A.in1.in1 (gxR (gxX X A' s4 H4 cenv fp pn) isAll Q) (gxY (gxX X A' s4 H4 cenv fp pn) isAll Q) n (.send .none) (s5.setGen gi .running)) ∧
    (∀ (pl : List (Addr × Obj)) (σ' : L2.St) (H' : Hp) (s' : Shared), Inv (gxX X A' s4 H4 cenv fp pn) pl σ' H' s' → s'.heap.IsGen a gi) ∧
    (∀ (c : Bool) (pl : List (Addr × Obj)) (σ' : L2.St) (H' : Hp) (s' : Shared) (h' : Heap) (gens' : Array GenState), Inv (gxX X A' s4 H4 cenv fp pn) pl σ' H' s' → Q (.bl c) H' → AllBare gens' → (∀ b o, s'.heap.get? b = some o → h'.get? b = some o) → EP X pins σ Q (.bool c) { s' with heap := h', gens := gens' })
section
variable {X : Cx} {pins : List (Addr × Obj)} {σ : L2.St} {H : Hp} {s : Shared} {elt tg iter : Expr} {ifs : List Expr} {scope : Scope} {own : List (Str × Nat)} {gpos : Pos} {wi : TI} {g : TG} {tt : TT} {te : TE} {c P : Addr} {k : Nat} {isAll : Bool} {Q : VK} {Q' : Value → Shared → Prop}
theorem gx_make (hr : Room (k + 1) X.A) (hc : X.calm = true) (hN : X.N.Nodup) (TB : GxR.TabB X.base X.mg c P) (hcode : X.env.code = .ref c) (hi : PI X tg iter wi) (ok : BlkOk X.N X.env.scope scope own) (hcell : ∀ y ∈ scope.names, y.2 ≠ .cell) (hco : scope.isCoroutine = false) (hdot : scope.names.lookup (".0" : Str) = some NameKind.local) (hdN : (".0" : Str) ∉ X.N)
    (hg : ∀ (A' : Around) (s : Shared) (H : Hp) (cl : List (Str × Addr)) (C : Addr) (code : Value) (fp : List Addr) (pn : List (Addr × Obj)), Room k A' → PG (gxX X A' s H (gxE X scope cl C code) fp pn) tg g)
    (ht : ∀ (A' : Around) (s : Shared) (H : Hp) (cl : List (Str × Addr)) (C : Addr) (code : Value) (fp : List Addr) (pn : List (Addr × Obj)), Room k A' → PTs (gxX X A' s H (gxE X scope cl C code) fp pn) ifs tt)
    (he : ∀ (A' : Around) (s : Shared) (H : Hp) (cl : List (Str × Addr)) (C : Addr) (code : Value) (fp : List Addr) (pn : List (Addr × Obj)), Room k A' → PE (gxX X A' s H (gxE X scope cl C code) fp pn) elt te)
    (hs : ∀ v, genFold iter X.env v = pure v) (I : Inv X pins σ H s) (h : tGx P isAll wi g tt te (own.map (·.2)) σ H Q) (hQ : ∀ a s5, GxReady X pins σ isAll Q a s5 → Q' (.ref a) s5) :
    wpAny (model X.prog X.w) X.A (eval (.GeneratorExp elt [⟨tg, iter, ifs, 0⟩] scope gpos) X.env) Q' X.xe s := by
  refine wpAny_GeneratorExp_make hco (closure_ok (all_caught I ok)) hcell hdot ok.kind (by have := hr.dp; omega) ?_ hs
  refine thn (hi.run pins s σ H _ I h) fun xv s1 hx => thn hx fun itv s2 h2 => ?_
  obtain ⟨it, fp, tn, J, H2, e, I2, T, st2, f2, ⟨ps, hP, htr⟩, q⟩ := h2
  subst e
  refine ⟨I2.nolimit, ?_⟩
  have hPs : s2.heap.get? P = some { cls := .none, data := .fields ps } := I2.hok P _ hP
  have cd : PySem.W.CodeHd s2.heap c P := TB.code.keeps fun b u e => I2.bk b u e
  have nP : ∀ b ∈ fp, b ≠ P := fun b hb z => by
    have := (f2 b hb).1
    rw [z, hP] at this
    cases this
  have cont : ∀ (code : Value) (h3 : Heap) (tk : Nat) (ps' : Array Value), Heap.ExtBut P s2.heap h3 → h3.get? P = some { cls := .none, data := .fields ps' } → (∃ more, ps' = ps ++ more) → TriplesOk ps'.toList →
      wpAny (model X.prog X.w) X.A (builtinsFor X.env.globals X.env.builtins) (fun bi s₄ =>
        ∀ h', h'.Ns s₄.heap.objs.size (fun y => if y = ".0" then some (.ref it) else none) → Heap.SameBut s₄.heap.objs.size (s₄.heap.push { cls := .type "frame", data := .dict #[] }) h' →
          Q' (.ref h'.objs.size) { s₄ with
            gens := s₄.gens.push (.fresh (.compStart (.GeneratorExp elt [⟨tg, iter, ifs, 0⟩] scope gpos) 0 (.ref it) .none (genEnv scope (cloFrom X.env.cells scope.names []) s₄.heap.objs.size code bi X.env))),
            toks := s₄.toks + 1 + 1 + 1,
            heap := h'.push { cls := .type "generator", data := .fields #[.int s₄.gens.size 0, .str "<genexpr>" (s₄.toks + 1), .str (X.env.qual ++ "<genexpr>") (s₄.toks + 1 + 1)] } }) X.xe { s2 with heap := h3, toks := tk } := by
    intro code h3 tk ps' hx hP3 ⟨more, hmore⟩ ht3
    obtain ⟨bAt, bOb, e1, e2, _, e4, e5, e6, e7, e8⟩ := TB.bm
    refine wpAny_builtinsFor (m := X.mg) (by rw [I2.ok.glob]; exact (I2.ok.mod.glob.keeps I2.bk).extBut hx TB.gP) e1 e2 (hx _ _ e4 (I2.bk _ _ e5)) e6 e7 e8 ?_
    subst hmore
    have I3 := GxR.inv_tab (h' := h3) (g' := s2.gens) (d' := s2.drawn) (t' := tk) I2 hP (fun b o hb e => hx b o hb e) hP3 I2.bare
    have hTab : GxR.Tabbed P H2 (upd H2 P (.tbl (ps ++ more))) := ⟨⟨ps ++ more, upd_same, ht3⟩, fun b hb => upd_ne hb⟩
    obtain ⟨W, ⟨m0, w0⟩, turn⟩ := q _ hTab
    generalize hH4 : upd H2 P (.tbl (ps ++ more)) = H4 at I3 hTab w0
    have n4 : ∀ b ∈ fp, H4 b = none := fun b hb => by
      rw [← hH4, upd_ne (nP b hb)]
      exact (f2 b hb).1
    have st3 : tn 0 h3 := T.keep _ _ _ st2 fun b hb o e => hx b o (nP b hb) e
    generalize hs4 : ({ s2 with heap := h3, toks := tk } : Shared) = s4
    have I4 : Inv X pins σ H4 s4 := by
      rw [← hs4]
      exact I3
    have st4 : tn 0 s4.heap := by
      rw [← hs4]
      exact st3
    intro h' hn' hs'
    have hsz : h'.objs.size = s4.heap.objs.size + 1 := by rw [hs'.1, Heap.size_push]
    have f4 : ∀ b ∈ fp, FpOk X pins H4 b ∧ b < s4.heap.objs.size := fun b hb => by
      refine ⟨⟨n4 b hb, (f2 b hb).2⟩, ?_⟩
      obtain ⟨o, e, _⟩ := T.obj _ _ st4 b hb
      exact Heap.lt_size e
    have kp : ∀ (gobj : Obj) b o, s4.heap.get? b = some o → (h'.push gobj).get? b = some o := fun gobj b o e => Heap.get?_push_of_some _ (hs'.extBut b o (Nat.ne_of_lt (Heap.lt_size e)) (Heap.get?_push_of_some _ e))
    have hh : X.A.handled = none := hr.hd
    have hA' : Room k ((X.A.in1.in1).over (.compLoop (.GeneratorExp elt [⟨tg, iter, ifs, 0⟩] scope gpos) 0 (.ref it) .none (gxE X scope (cloFrom X.env.cells scope.names []) s4.heap.objs.size code)) []) := by
      have d1 : ((X.A.in1.in1).over (.compLoop (.GeneratorExp elt [⟨tg, iter, ifs, 0⟩] scope gpos) 0 (.ref it) .none (gxE X scope (cloFrom X.env.cells scope.names []) s4.heap.objs.size code)) []).depth ≤ X.A.depth + 1 := Nat.le_of_eq rfl
      have u1 : ((X.A.in1.in1).over (.compLoop (.GeneratorExp elt [⟨tg, iter, ifs, 0⟩] scope gpos) 0 (.ref it) .none (gxE X scope (cloFrom X.env.cells scope.names []) s4.heap.objs.size code)) []).units ≤ X.A.units + 5 := Nat.le_of_eq rfl
      refine ⟨hh, ?_, ?_⟩
      · have := hr.dp
        omega
      · have := hr.un
        omega
    have hfrm : ((X.A.in1.in1).over (.compLoop (.GeneratorExp elt [⟨tg, iter, ifs, 0⟩] scope gpos) 0 (.ref it) .none (gxE X scope (cloFrom X.env.cells scope.names []) s4.heap.objs.size code)) []).frames = some (gxE X scope (cloFrom X.env.cells scope.names []) s4.heap.objs.size code :: X.stack) := by
      show pushEnvs [gxE X scope (cloFrom X.env.cells scope.names []) s4.heap.objs.size code] X.A.frames = _
      rw [I4.ok.frames]
      rfl
    generalize hgo : ({ cls := .type "generator", data := .fields #[.int s4.gens.size 0, .str "<genexpr>" (s4.toks + 1), .str (X.env.qual ++ "<genexpr>") (s4.toks + 1 + 1)] } : Obj) = gobj
    have I5 := gx_start (it := .ref it) (gobj := gobj) (tk := s4.toks + 1 + 1 + 1) (code := code) (gens' := s4.gens.push (.fresh (.compStart (.GeneratorExp elt [⟨tg, iter, ifs, 0⟩] scope gpos) 0 (.ref it) .none (genEnv scope (cloFrom X.env.cells scope.names []) s4.heap.objs.size code builtinsNs X.env)))) I4 ok hN hcell f4 hA'.hd hfrm (by rw [← hgo]; intro v z; cases z) (by rw [← hgo]; rfl) hn' hs' hdN (I4.bare.push rfl)
    generalize hA2 : ((X.A.in1.in1).over (.compLoop (.GeneratorExp elt [⟨tg, iter, ifs, 0⟩] scope gpos) 0 (.ref it) .none (gxE X scope (cloFrom X.env.cells scope.names []) s4.heap.objs.size code)) []) = A2 at I5 hA' hfrm
    have isg : ∀ {h5 : Heap}, h5.get? h'.objs.size = some gobj → h5.IsGen h'.objs.size s4.gens.size := fun {h5} e => by
      rw [← hgo] at e
      exact ⟨_, _, _, e, rfl, rfl, rfl⟩
    refine hQ _ _ ⟨A2, s4, H4, gxE X scope (cloFrom X.env.cells scope.names []) s4.heap.objs.size code, fp, [(h'.objs.size, gobj)], s4.gens.size, m0 + 1, isg (Heap.get?_push_size _ (by rw [← hgo]; rfl)), I5.nolimit, ⟨_, Array.getElem?_push_size .., rfl, ?_⟩, fun pl σ' H' s' I' => ?_, fun cb pl σ' H' s' h5 gens' I' qf hb hk => ?_⟩
    · have I6 : Inv (gxX X A2 s4 H4 (gxE X scope (cloFrom X.env.cells scope.names []) s4.heap.objs.size code) fp [(h'.objs.size, gobj)]) [] (wipe σ (own.map (·.2))) H4 (Shared.setGen { s4 with gens := s4.gens.push (.fresh (.compStart (.GeneratorExp elt [⟨tg, iter, ifs, 0⟩] scope gpos) 0 (.ref it) .none (genEnv scope (cloFrom X.env.cells scope.names []) s4.heap.objs.size code builtinsNs X.env))), toks := s4.toks + 1 + 1 + 1, heap := h'.push gobj } s4.gens.size .running) :=
        inv_gens I5 rfl rfl (allBare_setGen I5.bare rfl)
      have loop := gx_loop (Y := gxX X A2 s4 H4 (gxE X scope (cloFrom X.env.cells scope.names []) s4.heap.objs.size code) fp [(h'.objs.size, gobj)]) (B := X.A.in1.in1) (σ := σ) (vs := own.map (·.2)) hc hA2.symm rfl rfl hco
        (fun p hp z => by
          rw [List.mem_singleton.mp hp] at z
          have h1 := (f4 _ z).2
          rw [hsz] at h1
          exact absurd h1 (Nat.not_lt.mpr (Nat.le_succ _))) T (hg A2 s4 H4 _ _ code fp _ hA') (ht A2 s4 H4 _ _ code fp _ hA') (he A2 s4 H4 _ _ code fp _ hA') turn m0 (m0 + 1) 0 H4
      have st6 : tn 0 (h'.push gobj) := T.keep _ _ _ st4 fun b hb o e => kp gobj b o e
      show Seg _ _ _ _ _ _ _ ((compStart (.GeneratorExp elt [⟨tg, iter, ifs, 0⟩] scope gpos) 0 (.ref it) .none (gxE X scope (cloFrom X.env.cells scope.names []) s4.heap.objs.size code)).onRaise (leaving (gxE X scope (cloFrom X.env.cells scope.names []) s4.heap.objs.size code))) [] _
      have loop2 := fun s₀ => loop s₀ _ (Nat.lt_succ_self _) I6 st6 n4 w0
      unfold compStart
      rw [Sem.onRaise_eq_wrap]
      show Seg _ _ _ _ _ _ _ ((ask >>= _).wrap _ _ _ _) [] _
      refine seg_bind_wrap (wpAny_askSetting ?_)
      split
      · exact seg_again rfl (loop2 _)
      · first
          | exact seg_bind_wrap (wpAny_rule (seg_bind_wrap (wpAny_standAt (seg_bind_wrap (T.self _ 0 _ _ _ st6 (seg_again rfl (loop2 _)))))))
          | (refine seg_bind_wrap (wpAny_rule ?_); show Seg _ _ _ _ _ _ _ ((standAt iter.pos >>= _).wrap _ _ _ _) [] _; exact seg_bind_wrap (wpAny_standAt (seg_bind_wrap (T.self _ 0 _ _ _ st6 (seg_again rfl (loop2 _))))))
    · exact isg (I'.pin (h'.objs.size, gobj) (List.mem_append_left _ (List.mem_singleton.mpr rfl))).1
    · have I7 : Inv X pins σ H' { s' with gens := gens' } := I4.call' (ch := fp) (s' := { s' with gens := gens' }) I'.os I'.base I'.hok hb fun b hb => ⟨(f4 b hb).1.2.2.2.1, (f4 b hb).1.2.1, (f4 b hb).1.2.2.2.2.1, (f4 b hb).1.2.2.2.2.2⟩
      exact ⟨.bl cb, H', I7.kept (t' := s'.toks) hk, rfl, qf⟩
  cases known : codeAmong gpos ps.toList with
  | none =>
    refine wpAny_genexprCodeX hcode (cd.code hPs htr) (cd.tab hPs) known fun c' h' tk hx hge hlt hco' _ htab' _ => ?_
    obtain ⟨o1, vs, f1, tf, fl, tg', inF, tx, tt', op, _, _, _, _, _, _, _, _, _, htr', _⟩ := hco'
    exact cont _ h' tk _ hx htab'.2 ⟨_, rfl⟩ htr'
  | some cv =>
    refine wpAny_genexprCode_hit hcode (cd.code hPs htr) known ?_
    exact cont cv s2.heap s2.toks ps (Heap.ExtBut.refl _ _) hPs ⟨#[], by simp⟩ htr
end
end Pyr

set_option Elab.async false
set_option autoImplicit false
set_option linter.all false
set_option maxRecDepth 100000
set_option maxHeartbeats 2000000
namespace Pyr
open PySem PySem.Spec PyProof.Rows L2 Evl
section
variable {X : Cx} {elt tg iter : Expr} {ifs : List Expr} {scope : Scope} {own : List (Str × Nat)} {gpos : Pos} {wi : TI} {g : TG} {tt : TT} {te : TE} {c P : Addr} {k : Nat}
theorem pe_gx_all {p pos : Pos} (hr : Room (k + 1) X.A) (hc : X.calm = true) (hN : X.N.Nodup) (hgl : Gl X "all") (hm : X.mg "all" = none) (TB : GxR.TabB X.base X.mg c P) (hcode : X.env.code = .ref c) (hi : PI X tg iter wi) (ok : BlkOk X.N X.env.scope scope own) (hcell : ∀ y ∈ scope.names, y.2 ≠ .cell) (hco : scope.isCoroutine = false) (hdot : scope.names.lookup (".0" : Str) = some NameKind.local) (hdN : (".0" : Str) ∉ X.N)
    (hg : ∀ (A' : Around) (s : Shared) (H : Hp) (cl : List (Str × Addr)) (C : Addr) (code : Value) (fp : List Addr) (pn : List (Addr × Obj)), Room k A' → PG (gxX X A' s H (gxE X scope cl C code) fp pn) tg g)
    (ht : ∀ (A' : Around) (s : Shared) (H : Hp) (cl : List (Str × Addr)) (C : Addr) (code : Value) (fp : List Addr) (pn : List (Addr × Obj)), Room k A' → PTs (gxX X A' s H (gxE X scope cl C code) fp pn) ifs tt)
    (he : ∀ (A' : Around) (s : Shared) (H : Hp) (cl : List (Str × Addr)) (C : Addr) (code : Value) (fp : List Addr) (pn : List (Addr × Obj)), Room k A' → PE (gxX X A' s H (gxE X scope cl C code) fp pn) elt te)
    (hs : ∀ v, genFold iter X.env v = pure v)
    (hst : starEach [.GeneratorExp elt [⟨tg, iter, ifs, 0⟩] scope gpos] X.env = (false, eval (.GeneratorExp elt [⟨tg, iter, ifs, 0⟩] scope gpos) X.env) :: starEach [] X.env := by rfl) :
    PE X (.Call (.Name "all" p) [.GeneratorExp elt [⟨tg, iter, ifs, 0⟩] scope gpos] [] pos) (tGx P true wi g tt te (own.map (·.2))) := by
  refine ⟨fun pins s σ H Q I h => ?_⟩
  refine wpAny_Call_Name_kw (ld_blt I hgl hm boot_all ?_)
  refine PyProof.Rows.callWith_builtin1 ?_ hst (by rfl)
  rw [hst]
  show wpAny _ _ (spliced ((false, eval (.GeneratorExp elt [⟨tg, iter, ifs, 0⟩] scope gpos) X.env) :: backTo pos (starEach [] X.env))) _ _ s
  refine Calls.spliced_cons (gx_make hr hc hN TB hcode hi ok hcell hco hdot hdN hg ht he hs I h fun a s5 hG => ?_)
  obtain ⟨A', s4, H4, cenv, fp, pn, gi, n, hg1, hl, hgo, hY, hR⟩ := hG
  refine Calls.spliced_nil ?_
  refine call_function_tree F.kind_all F.plain_all F.entry_all (F.args_all1 _) ?_
  unfold Builtin.«all»
  refine wpAny_bind (m := oneArg "all" _) (wpAny_pure ?_)
  refine wpAny_bind (wpAny_pyIter_gen hg1 ?_)
  refine wpAny_pure ⟨plainId_quiet F.plain_all_loop _, ?_⟩
  exact gx_drain_all (Y := gxX X A' s4 H4 cenv fp pn) (A1 := X.A) (Q := Q) hr.hd (by have := hr.dp; omega) hY (fun c pl σ' H' s' h' gens' I' q hb hk => hR c pl σ' H' s' h' gens' I' q hb hk) n s5 hg1 hl hgo
theorem pe_gx_any {p pos : Pos} (hr : Room (k + 1) X.A) (hc : X.calm = true) (hN : X.N.Nodup) (hgl : Gl X "any") (hm : X.mg "any" = none) (TB : GxR.TabB X.base X.mg c P) (hcode : X.env.code = .ref c) (hi : PI X tg iter wi) (ok : BlkOk X.N X.env.scope scope own) (hcell : ∀ y ∈ scope.names, y.2 ≠ .cell) (hco : scope.isCoroutine = false) (hdot : scope.names.lookup (".0" : Str) = some NameKind.local) (hdN : (".0" : Str) ∉ X.N)
    (hg : ∀ (A' : Around) (s : Shared) (H : Hp) (cl : List (Str × Addr)) (C : Addr) (code : Value) (fp : List Addr) (pn : List (Addr × Obj)), Room k A' → PG (gxX X A' s H (gxE X scope cl C code) fp pn) tg g)
    (ht : ∀ (A' : Around) (s : Shared) (H : Hp) (cl : List (Str × Addr)) (C : Addr) (code : Value) (fp : List Addr) (pn : List (Addr × Obj)), Room k A' → PTs (gxX X A' s H (gxE X scope cl C code) fp pn) ifs tt)
    (he : ∀ (A' : Around) (s : Shared) (H : Hp) (cl : List (Str × Addr)) (C : Addr) (code : Value) (fp : List Addr) (pn : List (Addr × Obj)), Room k A' → PE (gxX X A' s H (gxE X scope cl C code) fp pn) elt te)
    (hs : ∀ v, genFold iter X.env v = pure v)
    (hst : starEach [.GeneratorExp elt [⟨tg, iter, ifs, 0⟩] scope gpos] X.env = (false, eval (.GeneratorExp elt [⟨tg, iter, ifs, 0⟩] scope gpos) X.env) :: starEach [] X.env := by rfl) :
    PE X (.Call (.Name "any" p) [.GeneratorExp elt [⟨tg, iter, ifs, 0⟩] scope gpos] [] pos) (tGx P false wi g tt te (own.map (·.2))) := by
  refine ⟨fun pins s σ H Q I h => ?_⟩
  refine wpAny_Call_Name_kw (ld_blt I hgl hm boot_any ?_)
  refine PyProof.Rows.callWith_builtin1 ?_ hst (by rfl)
  rw [hst]
  show wpAny _ _ (spliced ((false, eval (.GeneratorExp elt [⟨tg, iter, ifs, 0⟩] scope gpos) X.env) :: backTo pos (starEach [] X.env))) _ _ s
  refine Calls.spliced_cons (gx_make hr hc hN TB hcode hi ok hcell hco hdot hdN hg ht he hs I h fun a s5 hG => ?_)
  obtain ⟨A', s4, H4, cenv, fp, pn, gi, n, hg1, hl, hgo, hY, hR⟩ := hG
  refine Calls.spliced_nil ?_
  refine call_function_tree F.kind_any F.plain_any F.entry_any (F.args_any1 _) ?_
  unfold Builtin.«any»
  refine wpAny_bind (m := oneArg "any" _) (wpAny_pure ?_)
  refine wpAny_bind (wpAny_pyIter_gen hg1 ?_)
  refine wpAny_pure ⟨plainId_quiet F.plain_any_loop _, ?_⟩
  exact gx_drain_any (Y := gxX X A' s4 H4 cenv fp pn) (A1 := X.A) (Q := Q) hr.hd (by have := hr.dp; omega) hY (fun c pl σ' H' s' h' gens' I' q hb hk => hR c pl σ' H' s' h' gens' I' q hb hk) n s5 hg1 hl hgo
end
end Pyr

set_option Elab.async false
set_option autoImplicit false
set_option linter.all false
set_option maxRecDepth 100000
set_option maxHeartbeats 2000000
namespace Pyr
open PySem PySem.Spec PyProof.Rows L2 Evl

theorem takesF {X : Cx} : Takes X (fun _ _ _ _ => False) := fun u s' x => by
  obtain ⟨_, _, _, _, _, _, _, _, _, _, _, _, _, _, _, _, w⟩ := x
  exact w.elim
def gxF (isAll : Bool) (t : Tg) (tt : En → Res Bool) (fe : En → Res D) (ρ : En) : List D → Res D
  | [] => .ok (.bool isAll)
  | d :: ds => (tgE t d ρ).bind fun ρ1 => (noX (tt ρ1)).bind fun b => if b then (noX (fe ρ1)).bind fun y => (boolD y).bind fun c => if c = isAll then gxF isAll t tt fe ρ ds else .ok (.bool c) else gxF isAll t tt fe ρ ds
def eGx (isAll : Bool) (own : List Nat) (t : Tg) (fi : En → Res (List D)) (tt : En → Res Bool) (fe : En → Res D) : En → Res D := fun ρ => (fi ρ).bind fun ds => gxF isAll t tt fe (wipeE ρ own) ds
theorem boolD_exc {y : D} {c : Str} {fs : List (Str × D)} : ¬ boolD y = .exc c fs := by
  cases y <;> intro h <;> cases h
theorem gxF_exc {isAll : Bool} {t : Tg} {tt : En → Res Bool} {fe : En → Res D} {ρ : En} {c : Str} {fs : List (Str × D)} : ∀ ds : List D, ¬ gxF isAll t tt fe ρ ds = .exc c fs
  | [], h => by cases h
  | d :: ds, h => by
    have h : ((tgE t d ρ).bind fun ρ1 => (noX (tt ρ1)).bind fun b => if b then (noX (fe ρ1)).bind fun y => (boolD y).bind fun c => if c = isAll then gxF isAll t tt fe ρ ds else .ok (.bool c) else gxF isAll t tt fe ρ ds) = .exc c fs := h
    cases h1 : tgE t d ρ with
    | exc c' fs' => exact tgE_exc h1
    | bad => rw [h1] at h; cases h
    | ok ρ1 =>
      rw [h1, bind_ok] at h
      cases h2 : tt ρ1 with
      | exc c' fs' => rw [h2] at h; cases h
      | bad => rw [h2] at h; cases h
      | ok b =>
        rw [h2] at h
        have h : (if b then (noX (fe ρ1)).bind fun y => (boolD y).bind fun c => if c = isAll then gxF isAll t tt fe ρ ds else .ok (.bool c) else gxF isAll t tt fe ρ ds) = .exc c fs := h
        cases b with
        | false => exact gxF_exc ds h
        | true =>
          have h : ((noX (fe ρ1)).bind fun y => (boolD y).bind fun c => if c = isAll then gxF isAll t tt fe ρ ds else .ok (.bool c)) = .exc c fs := h
          cases h3 : fe ρ1 with
          | exc c' fs' => rw [h3] at h; cases h
          | bad => rw [h3] at h; cases h
          | ok y =>
            rw [h3] at h
            have h : ((boolD y).bind fun c => if c = isAll then gxF isAll t tt fe ρ ds else .ok (.bool c)) = .exc c fs := h
            cases h4 : boolD y with
            | exc c' fs' => exact boolD_exc h4
            | bad => rw [h4] at h; cases h
            | ok cb =>
              rw [h4, bind_ok] at h
              split at h
              · exact gxF_exc ds h
              · cases h
section
variable {TS : TabList} {X : Cx} {tg iter elt : Expr} {fi : En → Res (List D)} {tt : En → Res Bool} {fe : En → Res D} {ifs : List Expr} {pos : Pos} {t : Tg} {scope : Scope} {own : List (Str × Nat)} {k : Nat}
def gxT (X : Cx) (k : Nat) (scope : Scope) (ifs : List Expr) : TT := fun σ H Q => ∀ (A' : Around) (s : Shared) (H0 : Hp) (cl : List (Str × Addr)) (C : Addr) (code : Value) (fp : List Addr) (pn : List (Addr × Obj)), Room k A' → wpTs (gxX X A' s H0 (gxE X scope cl C code) fp pn) ifs σ H Q
def gxEl (X : Cx) (k : Nat) (scope : Scope) (elt : Expr) : TE := fun σ H Q => ∀ (A' : Around) (s : Shared) (H0 : Hp) (cl : List (Str × Addr)) (C : Addr) (code : Value) (fp : List Addr) (pn : List (Addr × Obj)), Room k A' → wpE (gxX X A' s H0 (gxE X scope cl C code) fp pn) elt σ H Q
theorem gr_tab {G H H' : Hp} {P : Addr} (hP : P ∈ TS) (ok : Ok0 TS G H) (h : GxR.Tabbed P H H') : Gr TS G H G H' := by
  obtain ⟨⟨ps, h1, h2⟩, h3⟩ := h
  obtain ⟨qs, q1, _⟩ := ok.tb P hP
  refine ⟨Ex.refl G, ⟨fun a o e n => ?_, fun a e => ?_⟩, fun _ h => .inl h, ⟨fun a o e => ?_, fun P' hP' => ?_, ok.nt⟩⟩
  · by_cases z : a = P
    · subst z
      rw [q1] at e
      cases e
      exact absurd rfl (n qs)
    · rw [h3 a z]
      exact e
  · by_cases z : a = P
    · subst z
      rw [h1] at e
      cases e
    · rw [← h3 a z]
      exact e
  · by_cases z : a = P
    · subst z
      have e2 := ok.le _ _ e
      rw [q1] at e2
      cases e2
      have := ok.nt _ _ e
      cases this
    · rw [h3 a z]
      exact ok.le _ _ e
  · by_cases z : P' = P
    · subst z
      exact ⟨ps, h1, h2⟩
    · rw [h3 P' z]
      exact ok.tb P' hP'
theorem gx_core {W : WX} {ρ : En} {σ : L2.St} {G H : Hp} {Q : VK} {P : Addr} {isAll : Bool} (hP : P ∈ TS) (hi : DI TS X tg iter fi) (ho : ∀ i ∈ t.all, i ∈ own.map (·.2))
    (ht : ∀ (A' : Around) (s : Shared) (H : Hp) (cl : List (Str × Addr)) (C : Addr) (code : Value) (fp : List Addr) (pn : List (Addr × Obj)), Room k A' → DTs TS (gxX X A' s H (gxE X scope cl C code) fp pn) ifs tt)
    (he : ∀ (A' : Around) (s : Shared) (H : Hp) (cl : List (Str × Addr)) (C : Addr) (code : Value) (fp : List Addr) (pn : List (Addr × Obj)), Room k A' → DE TS (gxX X A' s H (gxE X scope cl C code) fp pn) elt fe)
    (tk : Takes X W) (re : RpE TS X.K G H ρ σ) (ok : Ok0 TS G H) (post : PostG (RelE X.K) TS X W σ G H (eGx isAll (own.map (·.2)) t fi tt fe ρ) Q) :
    tGx P isAll (wpIt X tg iter) (gTg X.K t) (gxT X k scope ifs) (gxEl X k scope elt) (own.map (·.2)) σ H Q := by
  refine bindP (wp := fun R => wpIt X tg iter σ H R) back_E (fun Q' p => hi W ρ σ G H Q' tk re ok p) post fun J ds G1 H1 _ g1 wk p => ?_
  refine ⟨?_, fun H1' hT => ?_⟩
  · obtain ⟨ps, e1, e2⟩ := g1.ok.tb P hP
    exact ⟨ps, e1, e2⟩
  have gT := gr_tab hP g1.ok hT
  have p := PostG.shift back_E gT p
  have reW : ∀ {G' H' : Hp}, Gr TS G1 H1' G' H' → RpE TS X.K G' H' (wipeE ρ (own.map (·.2))) (wipe σ (own.map (·.2))) := fun e => (((re.mono g1).mono gT).mono e).wipe _
  generalize hρ : wipeE ρ (own.map (·.2)) = ρ0 at p reW
  have fin : ∀ {i : Nat} {r : Res D}, gxF isAll t tt fe ρ0 (ds.drop i) = r → gxF isAll t tt fe ρ0 ds = r → True := fun _ _ => trivial
  cases ht0 : gxF isAll t tt fe ρ0 ds with
  | exc c fs => exact (gxF_exc ds ht0).elim
  | bad =>
    rw [ht0] at p
    exact p.elim
  | ok total =>
    rw [ht0] at p
    refine ⟨fun i m H => m = ds.length - i ∧ i ≤ ds.length ∧ ∃ Gi, Gr TS G1 H1' Gi H ∧ gxF isAll t tt fe ρ0 (ds.drop i) = .ok total,
      ⟨ds.length, by simp, Nat.zero_le _, G1, Gr.refl gT.ok, by rw [List.drop_zero]; exact ht0⟩, ?_⟩
    rintro i m H2 ⟨rfl, hi2, Gi, gi, hr⟩
    obtain ⟨w1, w2⟩ := wk Gi H2 gi.g gi.ok
    by_cases hlt : i < ds.length
    · have hx : ds[i]? = some ds[i] := List.getElem?_eq_getElem hlt
      have hd : ds.drop i = ds[i] :: ds.drop (i + 1) := List.drop_eq_getElem_cons hlt
      rw [hd] at hr
      obtain ⟨h1, h2⟩ := w1 i _ hx
      refine .inr ⟨h1, fun H' => ∃ Gi, Gr TS G1 H1' Gi H' ∧ gxF isAll t tt fe ρ0 (ds.drop (i + 1)) = .ok total, fun H' h => ⟨ds.length - (i + 1), by omega, rfl, hlt, h⟩, fun v H' y => ?_⟩
      obtain ⟨G', g, r⟩ := h2 v H' y
      have hr : ((tgE t ds[i] ρ0).bind fun ρ1 => (noX (tt ρ1)).bind fun b => if b then (noX (fe ρ1)).bind fun y => (boolD y).bind fun c => if c = isAll then gxF isAll t tt fe ρ0 (ds.drop (i + 1)) else .ok (.bool c) else gxF isAll t tt fe ρ0 (ds.drop (i + 1))) = .ok total := hr
      cases e1 : tgE t ds[i] ρ0 with
      | exc c fs => exact (tgE_exc e1).elim
      | bad => rw [e1] at hr; cases hr
      | ok ρ1 =>
        rw [e1, bind_ok] at hr
        refine gTg_ok g.ok ho r (reW (gi.trans g)) e1 fun σ2 re2 hw => ?_
        rw [wipe_wipe] at hw
        refine ⟨hw, fun A' s' H0' cl' C' code' fp' pn' hroom => ?_⟩
        refine ht A' s' H0' cl' C' code' fp' pn' hroom (fun _ _ _ _ => False) ρ1 σ2 G' H' _ takesF re2 g.ok ?_
        cases e2 : tt ρ1 with
        | exc c fs => rw [e2] at hr; cases hr
        | bad => rw [e2] at hr; cases hr
        | ok b =>
          rw [e2] at hr
          intro b' G3 H3 g3 eb
          subst eb
          cases b' with
          | false => exact iteF ⟨G3, (gi.trans g).trans g3, hr⟩
          | true =>
            refine iteT fun A' s' H0' cl' C' code' fp' pn' hroom => ?_
            have hr : ((noX (fe ρ1)).bind fun y => (boolD y).bind fun c => if c = isAll then gxF isAll t tt fe ρ0 (ds.drop (i + 1)) else .ok (.bool c)) = .ok total := hr
            refine he A' s' H0' cl' C' code' fp' pn' hroom (fun _ _ _ _ => False) ρ1 σ2 G3 H3 _ takesF (re2.mono g3) g3.ok ?_
            cases e3 : fe ρ1 with
            | exc c fs => rw [e3] at hr; cases hr
            | bad => rw [e3] at hr; cases hr
            | ok yd =>
              rw [e3] at hr
              have hr : ((boolD yd).bind fun c => if c = isAll then gxF isAll t tt fe ρ0 (ds.drop (i + 1)) else .ok (.bool c)) = .ok total := hr
              intro yv G4 H4 g4 ry
              cases ry with
              | bl cb =>
                have hr : (if cb = isAll then gxF isAll t tt fe ρ0 (ds.drop (i + 1)) else .ok (.bool cb)) = .ok total := hr
                refine ⟨cb, rfl, ?_⟩
                have gg := ((gi.trans g).trans g3).trans g4
                split
                · rename_i hc
                  rw [if_pos hc] at hr
                  exact ⟨G4, gg, hr⟩
                · rename_i hc
                  rw [if_neg hc] at hr
                  cases hr
                  exact p _ G4 H4 gg (.bl cb)
              | _ => cases hr
    · have e : i = ds.length := by omega
      subst e
      rw [List.drop_length] at hr
      cases hr
      exact .inl ⟨w2, p _ Gi H2 gi (.bl isAll)⟩
theorem de_gx_all {p gpos : Pos} {c P : Addr} (C : CtE X) (hr : Room (k + 1) X.A) (hgl : Gl X "all") (hm : X.mg "all" = none) (TB : GxR.TabB X.base X.mg c P) (hP : P ∈ TS) (hcode : X.env.code = .ref c) (hi : DI TS X tg iter fi) (ok : BlkOk X.N X.env.scope scope own) (ho : ∀ i ∈ t.all, i ∈ own.map (·.2)) (hcell : ∀ y ∈ scope.names, y.2 ≠ .cell) (hco : scope.isCoroutine = false) (hdot : scope.names.lookup (".0" : Str) = some NameKind.local) (hdN : (".0" : Str) ∉ X.N)
    (hg : ∀ (A' : Around) (s : Shared) (H : Hp) (cl : List (Str × Addr)) (C : Addr) (code : Value) (fp : List Addr) (pn : List (Addr × Obj)), Room k A' → PG (gxX X A' s H (gxE X scope cl C code) fp pn) tg (gTg X.K t))
    (ht : ∀ (A' : Around) (s : Shared) (H : Hp) (cl : List (Str × Addr)) (C : Addr) (code : Value) (fp : List Addr) (pn : List (Addr × Obj)), Room k A' → DTs TS (gxX X A' s H (gxE X scope cl C code) fp pn) ifs tt)
    (he : ∀ (A' : Around) (s : Shared) (H : Hp) (cl : List (Str × Addr)) (C : Addr) (code : Value) (fp : List Addr) (pn : List (Addr × Obj)), Room k A' → DE TS (gxX X A' s H (gxE X scope cl C code) fp pn) elt fe)
    (hs : ∀ v, genFold iter X.env v = pure v := by intro _; rfl)
    (hst : starEach [.GeneratorExp elt [⟨tg, iter, ifs, 0⟩] scope gpos] X.env = (false, eval (.GeneratorExp elt [⟨tg, iter, ifs, 0⟩] scope gpos) X.env) :: starEach [] X.env := by rfl) :
    DE TS X (.Call (.Name "all" p) [.GeneratorExp elt [⟨tg, iter, ifs, 0⟩] scope gpos] [] pos) (eGx true (own.map (·.2)) t fi tt fe) := by
  refine ⟨?_⟩
  intro W ρ σ G H Q tk re k0 post
  exact wpE_of (pe_gx_all hr C.calm C.nd hgl hm TB hcode (pi_wp X tg iter) ok hcell hco hdot hdN hg (fun A' s H cl C code fp pn hroom => ⟨fun pins s1 σ H1 Q I h => h A' s H cl C code fp pn hroom pins s1 I⟩) (fun A' s H cl C code fp pn hroom => ⟨fun pins s1 σ H1 Q I h => h A' s H cl C code fp pn hroom pins s1 I⟩) hs hst) (gx_core (elt := elt) hP hi ho ht he tk re k0 post)
theorem de_gx_any {p gpos : Pos} {c P : Addr} (C : CtE X) (hr : Room (k + 1) X.A) (hgl : Gl X "any") (hm : X.mg "any" = none) (TB : GxR.TabB X.base X.mg c P) (hP : P ∈ TS) (hcode : X.env.code = .ref c) (hi : DI TS X tg iter fi) (ok : BlkOk X.N X.env.scope scope own) (ho : ∀ i ∈ t.all, i ∈ own.map (·.2)) (hcell : ∀ y ∈ scope.names, y.2 ≠ .cell) (hco : scope.isCoroutine = false) (hdot : scope.names.lookup (".0" : Str) = some NameKind.local) (hdN : (".0" : Str) ∉ X.N)
    (hg : ∀ (A' : Around) (s : Shared) (H : Hp) (cl : List (Str × Addr)) (C : Addr) (code : Value) (fp : List Addr) (pn : List (Addr × Obj)), Room k A' → PG (gxX X A' s H (gxE X scope cl C code) fp pn) tg (gTg X.K t))
    (ht : ∀ (A' : Around) (s : Shared) (H : Hp) (cl : List (Str × Addr)) (C : Addr) (code : Value) (fp : List Addr) (pn : List (Addr × Obj)), Room k A' → DTs TS (gxX X A' s H (gxE X scope cl C code) fp pn) ifs tt)
    (he : ∀ (A' : Around) (s : Shared) (H : Hp) (cl : List (Str × Addr)) (C : Addr) (code : Value) (fp : List Addr) (pn : List (Addr × Obj)), Room k A' → DE TS (gxX X A' s H (gxE X scope cl C code) fp pn) elt fe)
    (hs : ∀ v, genFold iter X.env v = pure v := by intro _; rfl)
    (hst : starEach [.GeneratorExp elt [⟨tg, iter, ifs, 0⟩] scope gpos] X.env = (false, eval (.GeneratorExp elt [⟨tg, iter, ifs, 0⟩] scope gpos) X.env) :: starEach [] X.env := by rfl) :
    DE TS X (.Call (.Name "any" p) [.GeneratorExp elt [⟨tg, iter, ifs, 0⟩] scope gpos] [] pos) (eGx false (own.map (·.2)) t fi tt fe) := by
  refine ⟨?_⟩
  intro W ρ σ G H Q tk re k0 post
  exact wpE_of (pe_gx_any hr C.calm C.nd hgl hm TB hcode (pi_wp X tg iter) ok hcell hco hdot hdN hg (fun A' s H cl C code fp pn hroom => ⟨fun pins s1 σ H1 Q I h => h A' s H cl C code fp pn hroom pins s1 I⟩) (fun A' s H cl C code fp pn hroom => ⟨fun pins s1 σ H1 Q I h => h A' s H cl C code fp pn hroom pins s1 I⟩) hs hst) (gx_core (elt := elt) hP hi ho ht he tk re k0 post)
end
end Pyr

set_option Elab.async false
set_option autoImplicit false
set_option linter.all false
set_option maxRecDepth 100000
set_option maxHeartbeats 2000000
namespace Pyr
open PySem PySem.Spec PyProof.Rows L2 Evl

/-! ### defs whose code object is known -/
structure FunC (K : PySem.W.Frag) (x : Str) (st : Stmt) (f : Addr) (fd : FuncData) (cdv : Value) : Prop where
  ex : ∃ (oc : Value) (od : Option Addr) (kV doc pm : Value) (an : Option Addr) (ct : Value) (osl : Array (Option Value)),
    fd = PySem.W.fnOf x x (defArgs st) (defBody st) (defScope st) .none kV doc pm an cdv ct ∧ K.lookup f = some ⟨oc, od, .func fd, osl⟩ ∧ PySem.W.codeIn K cdv x = true
  kp : PySem.W.keepIn K (.ref f) = true
def DfnC (K : PySem.W.Frag) (mg : Str → Option Value) (x : Str) (st : Stmt) (ps : List Str) (cdv : Value) : Prop := ∃ f fd, FunC K x st f fd cdv ∧ mg x = some (.ref f) ∧ Binds K fd ps []
def DefInC (K : PySem.W.Frag) (x : Str) (st : Stmt) (cdv : Value) : Prop := ∃ (f : Addr) (oc : Value) (od an : Option Addr) (sl : Array (Option Value)) (kV doc pm ct : Value),
  PySem.W.nsIn K mainGlobals x = some (some (.ref f)) ∧ K.lookup f = some ⟨oc, od, .func (PySem.W.fnOf x x (defArgs st) (defBody st) (defScope st) .none kV doc pm an cdv ct), sl⟩ ∧ PySem.W.codeIn K cdv x = true ∧ PySem.W.keepIn K (.ref f) = true
theorem DefInC.dfn {K : PySem.W.Frag} {mg : Str → Option Value} {h : Heap} {x : Str} {st : Stmt} {ps : List Str} {cdv : Value} (d : DefInC K x st cdv) (X : K.In h) (G : h.Ns mainGlobals mg) (b : BindOk x st ps) : DfnC K mg x st ps cdv := by
  obtain ⟨f, oc, od, an, sl, kV, doc, pm, ct, h1, h2, h3, h4⟩ := d
  exact ⟨f, _, ⟨⟨oc, od, kV, doc, pm, an, ct, sl, rfl, h2, h3⟩, h4⟩, PySem.W.mg_of X G h1, (fun_mk h2 h3 h4).binds b⟩
theorem fnok_mkC {TS : TabList} {P : Program} {w : World} {K : PySem.W.Frag} {mg : Str → Option Value} {base : Heap} {x : Str} {st : Stmt} {f : Addr} {fd : FuncData} {cdv : Value} {N ps : List Str} {k : Nat} {F : Frm → Res Fl} (Fn : FunC K x st f fd cdv) (S : FnScope N ps (defScope st))
    (body : ∀ (A : Around) (outer : List Env) (s : Shared) (H : Hp) (E : XK), Room k (A.deeper (envOfC x (defScope st) s.heap.objs.size f cdv)) → DSs TS (cxOf (L2.CX P w) P w K mg base N x (defScope st) f cdv A outer s H E) (defBody st) F) :
    FnOk P w K mg base (L2.CX P w) (k + 1) f fd ps (spD TS K mg (defM ps.length N.length F)) := by
  obtain ⟨⟨oc, od, kV, doc, pm, an, ct, osl, rfl, lk, hcd⟩, _⟩ := Fn
  refine fn_of lk hcd S (fun vs H Q E h => ?_) (fun A outer s H vs Q E hr h => ?_)
  · obtain ⟨G, ds, r, ok, p⟩ := h
    unfold defM at p
    split at p
    · rename_i e
      rw [r.len, e]
    · exact p.elim
  · obtain ⟨G, ds, r, ok, p⟩ := h
    unfold defM at p
    split at p
    · refine ⟨_, pss_wp _ _, body A outer s H E hr (fun cls d _ H => E cls d H) (frm0 N.length ds) (L2.start N vs) G H G H (fun _ => []) _ (takes_of rfl rfl rfl rfl) (SI.start ok r) ?_⟩
      cases hf : F (frm0 N.length ds) with
      | ok fl =>
        rw [hf] at p
        cases fl with
        | next ρ => exact fun σ' G' H' fp' _ s' => p .non G' H' s'.gr .non
        | ret rv =>
          cases rv with
          | val d => exact p
          | own ds => exact p
        | brk ρ => exact p.elim
        | cont ρ => exact p.elim
      | exc c fs =>
        rw [hf] at p
        exact fun C d _ G' H' m g r => p C d G' H' m g r
      | bad =>
        rw [hf] at p
        exact p.elim
    · exact p.elim
theorem known_ofC {TS : TabList} {P : Program} {w : World} {K : PySem.W.Frag} {mg : Str → Option Value} {base : Heap} {x : Str} {st : Stmt} {cdv : Value} {N ps : List Str} {k : Nat} {F : Frm → Res Fl} (d : DfnC K mg x st ps cdv) (S : FnScope N ps (defScope st))
    (body : ∀ (f : Addr) (A : Around) (outer : List Env) (s : Shared) (H : Hp) (E : XK), Room k (A.deeper (envOfC x (defScope st) s.heap.objs.size f cdv)) → DSs TS (cxOf (L2.CX P w) P w K mg base N x (defScope st) f cdv A outer s H E) (defBody st) F) :
    Known TS P w K mg base (k + 1) x ps (defM ps.length N.length F) := by
  obtain ⟨f, fd, F1, hm, hb⟩ := d
  exact ⟨f, fd, fnok_mkC F1 S (body f), hm, F1.kp, hb⟩
theorem CtE.gx {X : Cx} {A' : Around} {s : Shared} {H : Hp} {cenv : Env} {fp : List Addr} {pn : List (Addr × Obj)} {k : Nat} (C : CtE X) (hr : Room k A') : CtE (gxX X A' s H cenv fp pn) := ⟨C.calm, C.nd, room_ct hr⟩

/-! ### the law's end, with tables -/
def spLawT (K : PySem.W.Frag) (TS : List Addr) : Sp := fun vs H Q _ => ∃ (a : Addr) (ns : List Int), vs = [.ref a] ∧ SqL K H a (ns.map V.int) ∧ ns.length ≤ 63 ∧ (∀ P ∈ TS, H P = some (.tbl #[])) ∧ ∀ H', Q (.bl true) H'
theorem sql_noTb {K : PySem.W.Frag} {H : Hp} {a : Addr} {xs : List V} (h : SqL K H a xs) : SqL K (noTb H) a xs := by
  rcases h with (h | ⟨o, h⟩) | ⟨o, its, n, h, hc, r⟩
  · exact .inl (.inl (noTb_some.mpr ⟨h, rfl⟩))
  · exact .inl (.inr ⟨o, noTb_some.mpr ⟨h, rfl⟩⟩)
  · exact .inr ⟨o, its, n, h, hc, r⟩
theorem law_impT {TS : TabList} {P : Program} {w : World} {K : PySem.W.Frag} {mg : Str → Option Value} {base : Heap} {k : Nat} {f : Addr} {fd : FuncData} {ps : List Str} {m : List D → Res RV} (F : FnOk P w K mg base (L2.CX P w) k f fd ps (spD TS K mg m))
    (hm : ∀ ns : List Int, ns.length ≤ 63 → m [scriptD ns] = .ok (.val (.bool true))) : FnOk P w K mg base (L2.CX P w) k f fd ps (spLawT K TS.l) := by
  refine F.imp fun vs H Q E h => ?_
  obtain ⟨a, ns, rfl, hs, hl, ht, q⟩ := h
  refine ⟨noTb H, [scriptD ns], .cons (.lst (sql_noTb hs) (rps_ints ns)) .nil, ⟨noTb_ex H, fun P hP => ⟨#[], ht P hP, trivial⟩, fun _ _ h => (noTb_some.mp h).2⟩, ?_⟩
  rw [hm ns hl]
  intro v G' H' _ r
  cases r
  exact q H'
theorem law_endT {l : PySem.W.OpenLaw} {k : Nat} {q : Program} {loose : List Str} {XP : (Str → Option Value) → Heap → Prop} {YP : World → Heap → Prop} {d : DefRec} {K : Params → PySem.W.Frag} {x : Str}
    (hn : l.most = some 63) (hdf : d.params.defaults = []) (hr : Room k callerA) (hY : ∀ (w : World) (h : Heap), YP w h → (K w.params).In h)
    (F : ∀ (w : World) (mg : Str → Option Value) (fa : Addr) (h : Heap), (K w.params).In h → h.Ns mainGlobals mg → mg d.name = some (.ref fa) →
      (∀ (y : Str) (dd : DefRec) (c P : Addr), (recsOf q).find? (fun e => e.name == y) = some dd → PySem.W.tabIn (K w.params) y = some (c, P) → PySem.W.CodeHd h c P ∧ h.get? P = some (PySem.W.tabObj #[])) →
      ∃ (fd : FuncData) (cs : List (Addr × Addr)), (∀ p ∈ cs, PySem.W.CodeHd h p.1 p.2 ∧ h.get? p.2 = some (PySem.W.tabObj #[])) ∧ (∀ p ∈ cs, (K w.params).lookup p.2 = none) ∧ (∀ (s : Shared) (u : Value), BindsTo s fd ⟨[u], []⟩ [(x, u)]) ∧
        ∀ base : Heap, (K w.params).In base → base.Ns mainGlobals mg → (∀ p ∈ cs, GxR.TabB base mg p.1 p.2) → FnOk l.prog w (K w.params) mg base (L2.CX l.prog w) k fa fd [x] (spLawT (K w.params) (cs.map (·.2)))) :
    PySem.W.WalkO q loose XP YP l.row.toRowW d [] (fun f vs => PySem.call f vs) := by
  refine Att.attach_callB (n := 63) hn hdf fun w s₀ s₁ mg mb fa o pm cd doc a vs ns G Y ho hd hcd hmg hobj hints hlen hbits hg => ?_
  have KX := hY w _ Y
  obtain ⟨fd, cs, hT, nT, hb, hF⟩ := F w mg fa _ KX G.T.g hmg fun y dd c P h1 h2 => PySem.W.tab_of G.T KX h1 h2
  exact LamX.law_callTs KX G.T.g G.T.b G.T.builtins G.T.nolimit hg (fun p hp => (hT p hp).2) nT (fun p hp => (hT p hp).1) G.T.bmain hobj hints (Nat.le_trans hlen (by decide)) hr (fun base h1 h2 h3 => hF base h1 h2 fun p hp => ⟨(h3 p hp).code, (h3 p hp).bm, (h3 p hp).gP⟩) hb
    (fun H hH hS => ⟨a, ns, rfl, hS, hlen, fun P hP => by
      obtain ⟨p, hp, rfl⟩ := List.mem_map.mp hP
      exact hH p hp, fun _ => rfl⟩) fun H e s' h => by
      obtain ⟨_, _, _, _, _, _, _, _, _, _, _, _, z⟩ := h
      exact z
end Pyr

set_option Elab.async false
set_option autoImplicit false
set_option linter.all false
set_option maxRecDepth 100000
set_option maxHeartbeats 2000000
namespace Pyr
open PySem PySem.Spec PyProof.Rows L2 Evl

theorem law_finT {P : Program} {w : World} {K : PySem.W.Frag} {mg : Str → Option Value} {h : Heap} {st : Stmt} {fa : Addr} {x : Str} {k : Nat} {m : List D → Res RV} {cs : List (Addr × Addr)} (X : K.In h) (G : h.Ns mainGlobals mg) (hfa : mg "law" = some (.ref fa)) (d : DefIn K "law" st) (b : BindOk "law" st [x])
    (hT : ∀ p ∈ cs, PySem.W.CodeHd h p.1 p.2 ∧ h.get? p.2 = some (PySem.W.tabObj #[])) (nT : ∀ p ∈ cs, K.lookup p.2 = none)
    (F : ∀ (base : Heap), (∀ p ∈ cs, GxR.TabB base mg p.1 p.2) → ∀ (f : Addr) (fd : FuncData), L2.Fun K "law" "law" st f fd → FnOk P w K mg base (L2.CX P w) k f fd [x] (spD ⟨cs.map (·.2), P, w⟩ K mg m)) (hm : ∀ ns : List Int, ns.length ≤ 63 → m [scriptD ns] = .ok (.val (.bool true))) :
    ∃ (fd : FuncData) (cs : List (Addr × Addr)), (∀ p ∈ cs, PySem.W.CodeHd h p.1 p.2 ∧ h.get? p.2 = some (PySem.W.tabObj #[])) ∧ (∀ p ∈ cs, K.lookup p.2 = none) ∧ (∀ (s : Shared) (u : Value), BindsTo s fd ⟨[u], []⟩ [(x, u)]) ∧
        ∀ base : Heap, K.In base → base.Ns mainGlobals mg → (∀ p ∈ cs, GxR.TabB base mg p.1 p.2) → FnOk P w K mg base (L2.CX P w) k fa fd [x] (spLawT K (cs.map (·.2))) := by
  obtain ⟨f, oc, od, an, sl, kV, doc, pm, cd, ct, h1, h2, h3, h4⟩ := d
  have e := hfa.symm.trans (PySem.W.mg_of X G h1)
  cases e
  exact ⟨_, cs, hT, nT, fun s u => .of_eq (b kV doc pm an cd ct [u] rfl), fun base _ _ ht => law_impT (F base ht fa _ (fun_mk h2 h3 h4)) hm⟩
theorem law_finC {P : Program} {w : World} {K : PySem.W.Frag} {mg : Str → Option Value} {h : Heap} {st : Stmt} {fa : Addr} {x : Str} {k : Nat} {m : List D → Res RV} {cs : List (Addr × Addr)} {cdv : Value} (X : K.In h) (G : h.Ns mainGlobals mg) (hfa : mg "law" = some (.ref fa)) (d : DefInC K "law" st cdv) (b : BindOk "law" st [x])
    (hT : ∀ p ∈ cs, PySem.W.CodeHd h p.1 p.2 ∧ h.get? p.2 = some (PySem.W.tabObj #[])) (nT : ∀ p ∈ cs, K.lookup p.2 = none)
    (F : ∀ (base : Heap), (∀ p ∈ cs, GxR.TabB base mg p.1 p.2) → ∀ (f : Addr) (fd : FuncData), FunC K "law" st f fd cdv → FnOk P w K mg base (L2.CX P w) k f fd [x] (spD ⟨cs.map (·.2), P, w⟩ K mg m)) (hm : ∀ ns : List Int, ns.length ≤ 63 → m [scriptD ns] = .ok (.val (.bool true))) :
    ∃ (fd : FuncData) (cs : List (Addr × Addr)), (∀ p ∈ cs, PySem.W.CodeHd h p.1 p.2 ∧ h.get? p.2 = some (PySem.W.tabObj #[])) ∧ (∀ p ∈ cs, K.lookup p.2 = none) ∧ (∀ (s : Shared) (u : Value), BindsTo s fd ⟨[u], []⟩ [(x, u)]) ∧
        ∀ base : Heap, K.In base → base.Ns mainGlobals mg → (∀ p ∈ cs, GxR.TabB base mg p.1 p.2) → FnOk P w K mg base (L2.CX P w) k fa fd [x] (spLawT K (cs.map (·.2))) := by
  obtain ⟨f, oc, od, an, sl, kV, doc, pm, ct, h1, h2, h3, h4⟩ := d
  have e := hfa.symm.trans (PySem.W.mg_of X G h1)
  cases e
  exact ⟨_, cs, hT, nT, fun s u => .of_eq (b kV doc pm an cdv ct [u] rfl), fun base _ _ ht => law_impT (F base ht fa _ ⟨⟨oc, od, kV, doc, pm, an, ct, sl, rfl, h2, h3⟩, h4⟩) hm⟩

theorem tabIn_of {K : PySem.W.Frag} {x : Str} {f c P : Addr} {oc oc2 : Value} {od od2 : Option Addr} {sl sl2 : Array (Option Value)} {fd : FuncData} {vs : Array Value} (h1 : PySem.W.nsIn K mainGlobals x = some (some (.ref f))) (h2 : K.lookup f = some ⟨oc, od, .func fd, sl⟩) (h3 : fd.code = .ref c)
    (h4 : K.lookup c = some ⟨oc2, od2, .fields vs, sl2⟩) (h5 : vs[11]? = some (.ref P)) : PySem.W.tabIn K x = some (c, P) := by
  simp only [PySem.W.tabIn, h1, h2, h3, h4, h5]
/-! ### module constants, more built-ins -/
section
variable {TS : TabList} {X : Cx} {a b c : Expr} {fa fb fc : En → Res D} {pos : Pos}
theorem de_gstr {x c : Str} (h : ∃ t, X.mg x = some (.str c t)) (hg : Gl X x) (hd : (x == ("__debug__" : Str)) = false := by decide) : DE TS X (.Name x pos) (eC (.str c)) := by
  obtain ⟨t, h⟩ := h
  exact de_glob (v := .str c) hg h ⟨t, rfl⟩ (fun _ => .str c) hd
theorem de_gint {x : Str} {i : Int} (h : ∃ t, X.mg x = some (.int i t)) (hg : Gl X x) (hd : (x == ("__debug__" : Str)) = false := by decide) : DE TS X (.Name x pos) (eC (.int i)) := by
  obtain ⟨t, h⟩ := h
  exact de_glob (v := .int i) hg h ⟨t, rfl⟩ (fun _ => .int i) hd
theorem gstr_of {K : PySem.W.Frag} {mg : Str → Option Value} {h : Heap} {x c : Str} (X : K.In h) (G : h.Ns mainGlobals mg) (y : ∃ t, PySem.W.nsIn K mainGlobals x = some (some (.str c t))) : ∃ t, mg x = some (.str c t) := by
  obtain ⟨t, y⟩ := y
  exact ⟨t, PySem.W.mg_of X G y⟩
theorem gint_of {K : PySem.W.Frag} {mg : Str → Option Value} {h : Heap} {x : Str} {i : Int} (X : K.In h) (G : h.Ns mainGlobals mg) (y : ∃ t, PySem.W.nsIn K mainGlobals x = some (some (.int i t))) : ∃ t, mg x = some (.int i t) := by
  obtain ⟨t, y⟩ := y
  exact ⟨t, PySem.W.mg_of X G y⟩
def int2D : D → Res D
  | .int i => .ok (.int i)
  | .bool b => .ok (.int (if b then 1 else 0))
  | .str x => match PySem.intText? x with
    | some n => if x.length ≤ 640 then .ok (.int n) else .bad
    | none => .bad
  | _ => .bad
theorem cd_int2 : CallD TS X (.type "int") (oneD int2D) := by
  refine ⟨?_⟩
  intro W σ vs ds G H Q ok rs p
  unfold oneD at p
  split at p
  · obtain ⟨v, rfl, r⟩ := rs.one_inv
    rename_i d
    cases r with
    | int i => exact wpC_of call_int1 (.inl ⟨_, rfl, fin1 ok p (.int _)⟩)
    | bl b => exact wpC_of call_int1 (.inr ⟨_, rfl, fin1 ok p (.int _)⟩)
    | str x =>
      have p : PostG (RelE X.K) TS X W σ G H (match PySem.intText? x with
        | some n => if x.length ≤ 640 then .ok (.int n) else .bad
        | none => .bad) Q := p
      cases e : PySem.intText? x with
      | none =>
        rw [e] at p
        exact p.elim
      | some n =>
        rw [e] at p
        have p : PostG (RelE X.K) TS X W σ G H (if x.length ≤ 640 then .ok (.int n) else .bad) Q := p
        split at p
        · rename_i hl
          exact wpC_of call_int_str ⟨x, n, rfl, e, hl, fin1 ok p (.int _)⟩
        · exact p.elim
    | _ => exact p.elim
  · exact p.elim
def strD : D → Res D
  | .int i => if i.natAbs.log2 < 1920 then .ok (.str (Str.ofString (toString i))) else .bad
  | _ => .bad
theorem cd_str : CallD TS X (.type "str") (oneD strD) := by
  refine ⟨?_⟩
  intro W σ vs ds G H Q ok rs p
  unfold oneD at p
  split at p
  · obtain ⟨v, rfl, r⟩ := rs.one_inv
    cases r with
    | int i =>
      have p : PostG (RelE X.K) TS X W σ G H (if i.natAbs.log2 < 1920 then .ok (.str (Str.ofString (toString i))) else .bad) Q := p
      split at p
      · rename_i hl
        exact wpC_of call_str_int ⟨_, rfl, hl, fin1 ok p (.str _)⟩
      · exact p.elim
    | _ => exact p.elim
  · exact p.elim
end
end Pyr

set_option Elab.async false
set_option autoImplicit false
set_option linter.all false
set_option maxRecDepth 100000
set_option maxHeartbeats 2000000
namespace Pyr
open PySem PySem.Spec PyProof.Rows L2 Evl
theorem gxF_all {t : Tg} {tt : En → Res Bool} {fe : En → Res D} {ρ : En} {p : D → Bool} : ∀ ds : List D, (∀ d ∈ ds, ∃ ρ1, tgE t d ρ = .ok ρ1 ∧ tt ρ1 = .ok true ∧ fe ρ1 = .ok (.bool (p d))) → gxF true t tt fe ρ ds = .ok (.bool (ds.all p))
  | [], _ => rfl
  | d :: ds, h => by
    obtain ⟨ρ1, h1, h2, h3⟩ := h d List.mem_cons_self
    show (tgE t d ρ).bind _ = _
    rw [h1]
    show (noX (tt ρ1)).bind _ = _
    rw [h2]
    show (noX (fe ρ1)).bind _ = _
    rw [h3]
    show (if p d = true then gxF true t tt fe ρ ds else .ok (.bool (p d))) = _
    rw [List.all_cons]
    cases hp : p d with
    | true =>
      rw [if_pos rfl, gxF_all ds fun d hd => h d (List.mem_cons_of_mem _ hd), Bool.true_and]
    | false => rw [if_neg (by decide), Bool.false_and]
theorem gxF_any {t : Tg} {tt : En → Res Bool} {fe : En → Res D} {ρ : En} {p : D → Bool} : ∀ ds : List D, (∀ d ∈ ds, ∃ ρ1, tgE t d ρ = .ok ρ1 ∧ tt ρ1 = .ok true ∧ fe ρ1 = .ok (.bool (p d))) → gxF false t tt fe ρ ds = .ok (.bool (ds.any p))
  | [], _ => rfl
  | d :: ds, h => by
    obtain ⟨ρ1, h1, h2, h3⟩ := h d List.mem_cons_self
    show (tgE t d ρ).bind _ = _
    rw [h1]
    show (noX (tt ρ1)).bind _ = _
    rw [h2]
    show (noX (fe ρ1)).bind _ = _
    rw [h3]
    show (if p d = false then gxF false t tt fe ρ ds else .ok (.bool (p d))) = _
    rw [List.any_cons]
    cases hp : p d with
    | false => rw [if_pos rfl, gxF_any ds fun d hd => h d (List.mem_cons_of_mem _ hd), Bool.false_or]
    | true => rw [if_neg (by decide), Bool.true_or]
theorem in_sign (c : Nat) (y : Str) : inD (.str ⟨#[c]⟩) (.str y) = .ok (.bool (decide (c ∈ y.cps.toList))) := by
  show (if (⟨#[c]⟩ : Str).length = 1 then Res.ok (PyData.bool (decide ((⟨#[c]⟩ : Str).cps.getD 0 0 ∈ y.cps.toList))) else .bad) = _
  rw [if_pos (show (⟨#[c]⟩ : Str).length = 1 from rfl)]
  rfl
/-- all signs of a text among those of another -/
theorem gx_signs {i : Nat} {ρ : En} {y : Str} {tt : En → Res Bool} (x : Str) (fe : En → Res D) (ht : ∀ ρ1, tt ρ1 = .ok true) (hf : ∀ c : Nat, fe (ρ.set i (some (.str ⟨#[c]⟩))) = inD (.str ⟨#[c]⟩) (.str y)) : gxF true (.nm i) tt fe ρ (signsD x) = .ok (.bool (x.cps.toList.all fun c => decide (c ∈ y.cps.toList))) := by
  rw [gxF_all (p := fun d => match d with | .str z => decide (z.cps.getD 0 0 ∈ y.cps.toList) | _ => false)]
  · unfold signsD
    rw [List.all_map]
    rfl
  · intro d hd
    unfold signsD at hd
    obtain ⟨c, _, rfl⟩ := List.mem_map.mp hd
    refine ⟨_, rfl, ht _, ?_⟩
    rw [hf, in_sign]
    rfl
theorem tl_len (x : Str) : x.length = x.cps.toList.length := by show x.cps.size = _; simp
theorem len_str {x : Str} (h : x.length ≤ LIM) : lenD (.str x) = .ok (.int x.length) := okL_ok h
theorem modD_int {i j : Int} (h : j ≠ 0) : modD (.int i) (.int j) = .ok (.int (i.fmod j)) := if_pos h
theorem fmod_nat (n : Int) {m : Nat} (hm : 0 < m) : ∃ j : Nat, n.fmod m = j ∧ j < m := ⟨(n.fmod m).toNat, by rw [Int.toNat_of_nonneg (Int.fmod_nonneg_of_pos _ (by omega))], by have := Int.fmod_lt_of_pos n (b := m) (by omega); have := Int.fmod_nonneg_of_pos n (b := m) (by omega); omega⟩
theorem addD_str {x y : Str} (h : x.length + y.length ≤ LIM) : addD (.str x) (.str y) = .ok (.str (x ++ y)) := okL_ok h
end Pyr

set_option Elab.async false
set_option autoImplicit false
set_option linter.all false
set_option maxRecDepth 100000
set_option maxHeartbeats 2000000
namespace Pyr
open PySem PySem.Spec PyProof.Rows L2 Evl
theorem set_any {i : Nat} {fe : En → Res D} {ρ : Frm} {d : D} (h : evP fe ρ = .ok d) : sSet i fe ρ = .ok (.next (ρ.set i (.val d))) := by unfold sSet; rw [h]; rfl
theorem app_any {i : Nat} {fe : En → Res D} {ρ : Frm} {ds : List D} {d : D} (h : ρ[i]? = some (Sl.own (.lst ds))) (he : evP fe ρ = .ok d) (hl : ds.length + 1 ≤ LIM) : sApp i fe ρ = .ok (.next (ρ.set i (.own (.lst (ds ++ [d]))))) := by unfold sApp; rw [h]; show (evP fe ρ).bind _ = _; rw [he]; exact okL_ok hl
theorem put_any {i : Nat} {fj fe : En → Res D} {ρ : Frm} {ds : List D} {d : D} {j : Nat} (h : ρ[i]? = some (Sl.own (.lst ds))) (he : evP fe ρ = .ok d) (hj : evP fj ρ = .ok (.int (j : Int))) (hl : j < ds.length) : sPut i fj fe ρ = .ok (.next (ρ.set i (.own (.lst (ds.set j d))))) := by
  unfold sPut
  rw [h]
  show (evP fe ρ).bind _ = _
  rw [he]
  show (evP fj ρ).bind _ = _
  rw [hj]
  show (match ixN ds.length (j : Int) with
      | some n => Res.ok (Fl.next (ρ.set i (.own (.lst (ds.set n d)))))
      | none => .bad) = _
  have e : ixN ds.length (j : Int) = some j := by
    unfold ixN
    rw [if_pos (by omega), if_pos (by omega)]
    simp
  rw [e]
theorem mulD_r {i j : Int} (h : -(2 ^ 64) < j ∧ j < 2 ^ 64) : mulD (.int i) (.int j) = .ok (.int (i * j)) := if_pos (.inr h)
theorem fdivD_r {i j : Int} (h : j ≠ 0 ∧ j.natAbs < 1073741824) : fdivD (.int i) (.int j) = .ok (.int (i.fdiv j)) := if_pos h
theorem fmod_in (n : Int) {m : Int} (hm : 0 < m) : 0 ≤ n.fmod m ∧ n.fmod m < m := ⟨Int.fmod_nonneg_of_pos _ hm, Int.fmod_lt_of_pos _ hm⟩
theorem e2_ok {g : D → D → Res D} {fa fb : En → Res D} {ρ : En} {x y : D} (ha : fa ρ = .ok x) (hb : fb ρ = .ok y) : e2 g fa fb ρ = g x y := by unfold e2; rw [ha, bind_ok, hb, bind_ok]
theorem e1_ok {g : D → Res D} {fa : En → Res D} {ρ : En} {x : D} (ha : fa ρ = .ok x) : e1 g fa ρ = g x := by unfold e1; rw [ha, bind_ok]
theorem one_ok {g : D → Res D} {fa : En → Res D} {ρ : En} {x : D} (ha : fa ρ = .ok x) : eN (oneD g) (aC fa a0) ρ = g x := by unfold eN aC a0; rw [ha]; rfl
theorem iF_ok {g : D → Res (List D)} {fa : En → Res D} {ρ : En} {x : D} (ha : fa ρ = .ok x) : iF g fa ρ = g x := by unfold iF; rw [ha, bind_ok]
theorem tE_ok {g : D → Res Bool} {fa : En → Res D} {ρ : En} {x : D} (ha : fa ρ = .ok x) : tE g fa ρ = g x := by unfold tE; rw [ha, bind_ok]
theorem aC_ok {fa : En → Res D} {fr : En → Res (List D)} {ρ : En} {x : D} {xs : List D} (ha : fa ρ = .ok x) (hr : fr ρ = .ok xs) : aC fa fr ρ = .ok (x :: xs) := by unfold aC; rw [ha, bind_ok, hr]; rfl
theorem eN_ok {g : List D → Res D} {fr : En → Res (List D)} {ρ : En} {xs : List D} (hr : fr ρ = .ok xs) : eN g fr ρ = g xs := by unfold eN; rw [hr, bind_ok]
theorem call_ok {m : List D → Res RV} {fr : En → Res (List D)} {ρ : En} {xs : List D} {r : RV} (hr : fr ρ = .ok xs) (hm : m xs = .ok r) : eCall m fr ρ = .ok r.d := by unfold eCall; rw [hr, bind_ok, hm]; rfl
theorem not_ok {t : En → Res Bool} {ρ : En} {b : Bool} (h : t ρ = .ok b) : tNotR t ρ = .ok (!b) := by unfold tNotR; rw [h, bind_ok]
theorem and_ok {t u : En → Res Bool} {ρ : En} {a b : Bool} (h : t ρ = .ok a) (h2 : a = true → u ρ = .ok b) : tAndR t u ρ = .ok (a && b) := by
  unfold tAndR
  rw [h, bind_ok]
  cases a with
  | true => rw [if_pos rfl, h2 rfl]; rfl
  | false => rfl
theorem or_ok {t u : En → Res Bool} {ρ : En} {a b : Bool} (h : t ρ = .ok a) (h2 : a = false → u ρ = .ok b) : tOrR t u ρ = .ok (a || b) := by
  unfold tOrR
  rw [h, bind_ok]
  cases a with
  | false => rw [if_neg (by decide), h2 rfl]; rfl
  | true => rfl
end Pyr

set_option Elab.async false
set_option autoImplicit false
set_option linter.all false
set_option maxRecDepth 100000
set_option maxHeartbeats 2000000
namespace Com
open PySem PySem.Spec PyProof.Rows L2 Evl Pyr
abbrev eL (f : En → Res (List Pyr.D)) : En → Res Pyr.D := fun ρ => (f ρ).map .list
def B__law_draws_0 : Frm → Res Fl := (sSeq (sSet 5 (eC (.int 0)))
  (sSeq (sIf (tE boolD (e2 gtD (eN (oneD lenD) (aC (eVar 2) a0)) (eC (.int 0)))) (sSeq (sSet 7 (e2 modD (eN (oneD int2D) (aC (eVar 4) a0)) (eN (oneD lenD) (aC (eVar 2) a0))))
  (sIf (tE boolD (e2 geD (e2 atD (eVar 2) (eVar 7)) (e2 powD (eC (.int 10)) (eC (.int 18))))) (sSeq (sSet 5 (e2 modD (eN (oneD int2D) (aC (e2 atD (eVar 2) (eVar 7)) a0)) (eC (.int 1000))))
  (sPut 2 (eVar 7) (e2 fdivD (e2 atD (eVar 2) (eVar 7)) (eC (.int 1000))))) (sSeq (sSet 8 (e2 modD (eN (oneD int2D) (aC (e2 addD (e2 addD (e2 mulD (e2 atD (eVar 2) (eVar 7)) (eC (.int 48271))) (e2 mulD (eVar 4) (eC (.int 69621)))) (eC (.int 11))) a0)) (eC (.int 2147483647))))
  (sSeq (sSet 8 (e2 modD (eN (oneD int2D) (aC (e2 addD (e2 mulD (eVar 8) (eC (.int 16807))) (eVar 7)) a0)) (eC (.int 2147483629))))
  (sSet 5 (e2 modD (eN (oneD int2D) (aC (e2 fdivD (eVar 8) (eC (.int 7))) a0)) (eC (.int 1000)))))))) sNext)
  (sApp 3 (eVar 5))))
def F__law_draws : Frm → Res Fl := (sSeq (sSetL 2 (lComp [6] (Tg.nm 6) (iF walkD (eVar 0)) tYesR (eVar 6)))
  (sSeq (sSetL 3 (lN a0))
  (sSeq (sForR (Tg.nm 4) (iF r1D (eVar 1)) B__law_draws_0)
  (sRetO 3))))
def m__law_draws : List D → Res RV := defM 2 9 F__law_draws
theorem pow18 : powD (.int 10) (.int 18) = .ok (.int 1000000000000000000) := by
  unfold powD
  simp only [show (0 : Int) ≤ 18 ∧ (18 : Int) ≤ 1000000 ∧ (10 : Int).natAbs < 2 ^ 64 by decide, if_true, and_self]
  rfl
abbrev drF (a b : Sl) (R : List Int) (Ds : List Pyr.D) (k : Int) (s5 s7 s8 : Sl) : Frm := [a, b, .own (.lst (R.map .int)), .own (.lst Ds), .val (.int k), s5, .emp, s7, s8]
theorem draw_one (a b : Sl) (R : List Int) (Ds : List Pyr.D) (k : Nat) (s5 s7 s8 : Sl) (hD : Ds.length + 1 ≤ LIM) (hR : R.length ≤ LIM) :
    ∃ R' v s7' s8', B__law_draws_0 (drF a b R Ds k s5 s7 s8) = .ok (.next (drF a b R' (Ds ++ [.int v]) k (.val (.int v)) s7' s8')) ∧ R'.length = R.length ∧ 0 ≤ v ∧ v < 1000 := by
  unfold B__law_draws_0
  rw [seq_ok (set_ok (d := .int 0) rfl)]
  rw [show (drF a b R Ds k s5 s7 s8).set 5 (.val (.int 0)) = drF a b R Ds k (.val (.int 0)) s7 s8 from rfl]
  have t1 : ∀ s5 s7 s8, (tE boolD (e2 gtD (eN (oneD lenD) (aC (eVar 2) a0)) (eC (.int 0)))) (frzE (drF a b R Ds k s5 s7 s8)) = .ok (decide (0 < R.length)) := fun s5 s7 s8 => by
    show Res.ok (decide ((0 : Int) < ((R.map PyData.int).length : Int))) = _
    rw [List.length_map]
    congr 1
    rw [decide_eq_decide]
    omega
  by_cases h0 : 0 < R.length
  · -- the place
    have hk := fmod_nat (k : Int) h0
    obtain ⟨j, ej, hj⟩ := hk
    have hget : (R.map PyData.int)[j]? = some (.int R[j]) := by
      rw [List.getElem?_map, List.getElem?_eq_getElem hj]
      rfl
    have eat : ∀ s5 s8, evP (e2 modD (eN (oneD int2D) (aC (eVar 4) a0)) (eN (oneD lenD) (aC (eVar 2) a0))) (drF a b R Ds k s5 s7 s8) = .ok (.int (j : Int)) := fun s5 s8 => by
      refine evP_frz rfl ?_ rfl
      show modD (.int k) (.int ((R.map PyData.int).length : Int)) = _
      rw [List.length_map, modD_int (by omega), ej]
    have r0 : ∀ s5 s8, (e2 atD (eVar 2) (eVar 7)) (frzE (drF a b R Ds k s5 (.val (.int j)) s8)) = .ok (.int R[j]) := fun s5 s8 => by
      show atD (.list (R.map .int)) (.int (j : Int)) = _
      exact at_list hget
    have t2 : (tE boolD (e2 geD (e2 atD (eVar 2) (eVar 7)) (e2 powD (eC (.int 10)) (eC (.int 18))))) (frzE (drF a b R Ds k (.val (.int 0)) (.val (.int j)) s8)) = .ok (decide (1000000000000000000 ≤ R[j])) := by
      show (((e2 atD (eVar 2) (eVar 7)) (frzE (drF a b R Ds k (.val (.int 0)) (.val (.int j)) s8))).bind fun x => (powD (.int 10) (.int 18)).bind fun y => geD x y).bind boolD = _
      rw [r0, pow18]
      rfl
    by_cases h1 : 1000000000000000000 ≤ R[j]
    · refine ⟨R.set j (R[j].fdiv 1000), R[j].fmod 1000, .val (.int j), s8, ?_, by rw [List.length_set], (fmod_in _ (by decide)).1, (fmod_in _ (by decide)).2⟩
      rw [seq_ok (ρ' := drF a b (R.set j (R[j].fdiv 1000)) Ds k (.val (.int (R[j].fmod 1000))) (.val (.int j)) s8)]
      · rw [app_any (ds := Ds) (d := .int (R[j].fmod 1000)) rfl (evP_ok rfl) hD]
        rfl
      · rw [if_ok (t1 _ _ _), decide_eq_true h0, if_pos rfl, seq_ok (set_any (eat _ _))]
        show sIf _ _ _ (drF a b R Ds k (.val (.int 0)) (.val (.int j)) s8) = _
        rw [if_ok t2, decide_eq_true h1, if_pos rfl]
        rw [seq_ok (set_any (d := .int (R[j].fmod 1000)) ?_)]
        · show sPut _ _ _ (drF a b R Ds k (.val (.int (R[j].fmod 1000))) (.val (.int j)) s8) = _
          rw [put_any (ds := R.map .int) (d := .int (R[j].fdiv 1000)) (j := j) rfl ?_ (evP_ok rfl) (by rw [List.length_map]; exact hj)]
          · rw [show (R.map PyData.int).set j (.int (R[j].fdiv 1000)) = (R.set j (R[j].fdiv 1000)).map PyData.int by rw [List.map_set]]
            rfl
          · refine evP_frz rfl ?_ rfl
            show (((e2 atD (eVar 2) (eVar 7)) (frzE (drF a b R Ds k (.val (.int (R[j].fmod 1000))) (.val (.int j)) s8))).bind fun x => fdivD x (.int 1000)) = _
            rw [r0, bind_ok, fdivD_r (by decide)]
        · refine evP_frz rfl ?_ rfl
          show ((((e2 atD (eVar 2) (eVar 7)) (frzE (drF a b R Ds k (.val (.int 0)) (.val (.int j)) s8))).bind fun x => Res.ok [x]).bind (oneD int2D)).bind (fun x => modD x (.int 1000)) = _
          rw [r0]
          show modD (.int R[j]) (.int 1000) = _
          rw [modD_int (by decide)]
    · refine ⟨R, ((((((R[j] * 48271 + k * 69621 + 11).fmod 2147483647) * 16807 + j).fmod 2147483629).fdiv 7).fmod 1000), .val (.int j), .val (.int ((((R[j] * 48271 + k * 69621 + 11).fmod 2147483647) * 16807 + j).fmod 2147483629)), ?_, rfl, (fmod_in _ (by decide)).1, (fmod_in _ (by decide)).2⟩
      generalize hm1 : (R[j] * 48271 + (k : Int) * 69621 + 11).fmod 2147483647 = m1
      generalize hm2 : (m1 * 16807 + (j : Int)).fmod 2147483629 = m2
      generalize hv : (m2.fdiv 7).fmod 1000 = v
      rw [seq_ok (ρ' := drF a b R Ds k (.val (.int v)) (.val (.int j)) (.val (.int m2)))]
      · rw [app_any (ds := Ds) (d := .int v) rfl (evP_ok rfl) hD]
        rfl
      · rw [if_ok (t1 _ _ _), decide_eq_true h0, if_pos rfl, seq_ok (set_any (eat _ _))]
        show sIf _ _ _ (drF a b R Ds k (.val (.int 0)) (.val (.int j)) s8) = _
        rw [if_ok t2, decide_eq_false h1, if_neg (by decide)]
        rw [seq_ok (set_any (d := .int m1) ?_)]
        · show sSeq _ _ (drF a b R Ds k (.val (.int 0)) (.val (.int j)) (.val (.int m1))) = _
          rw [seq_ok (set_any (d := .int m2) ?_)]
          · show sSet _ _ (drF a b R Ds k (.val (.int 0)) (.val (.int j)) (.val (.int m2))) = _
            rw [set_any (d := .int v) ?_]
            · rfl
            · refine evP_ok ?_
              show ((((fdivD (.int m2) (.int 7)).bind fun x => Res.ok [x]).bind (oneD int2D)).bind fun x => modD x (.int 1000)) = _
              rw [fdivD_r (by decide)]
              show modD (.int (m2.fdiv 7)) (.int 1000) = _
              rw [modD_int (by decide), hv]
          · refine evP_ok ?_
            show (((((mulD (.int m1) (.int 16807)).bind fun x => addD x (.int j)).bind fun x => Res.ok [x]).bind (oneD int2D)).bind fun x => modD x (.int 2147483629)) = _
            rw [mulD_r (by decide)]
            show modD (.int (m1 * 16807 + j)) (.int 2147483629) = _
            rw [modD_int (by decide), hm2]
        · refine evP_frz rfl ?_ rfl
          refine (e2_ok (x := .int (R[j] * 48271 + (k : Int) * 69621 + 11)) (y := .int 2147483647) ?_ rfl).trans ?_
          · refine (one_ok (x := .int (R[j] * 48271 + (k : Int) * 69621 + 11)) ?_).trans rfl
            refine (e2_ok (x := .int (R[j] * 48271 + (k : Int) * 69621)) (y := .int 11) ?_ rfl).trans rfl
            exact (e2_ok ((e2_ok (r0 _ _) rfl).trans (mulD_r (i := R[j]) (j := 48271) (by decide))) ((e2_ok (x := .int k) (y := .int 69621) rfl rfl).trans (mulD_r (by decide)))).trans rfl
          rw [modD_int (by decide), hm1]
  · refine ⟨R, 0, s7, s8, ?_, rfl, by decide, by decide⟩
    rw [seq_ok (ρ' := drF a b R Ds k (.val (.int 0)) s7 s8)]
    · rw [app_any (ds := Ds) (d := .int 0) rfl (evP_ok rfl) hD]
      rfl
    · rw [if_ok (t1 _ _ _), decide_eq_false h0]
      rfl
theorem draw_loop (a b : Sl) : ∀ (n k : Nat) (R : List Int) (Ds : List Pyr.D) (s4 s5 s7 s8 : Sl), Ds.length + n ≤ LIM → R.length ≤ LIM →
    ∃ (R' : List Pyr.D) (vs : List Int) (s4' s5' s7' s8' : Sl), forF (Tg.nm 4) B__law_draws_0 (upto (k : Int) n) [a, b, .own (.lst (R.map .int)), .own (.lst Ds), s4, s5, .emp, s7, s8] = .ok (.next [a, b, .own (.lst R'), .own (.lst (Ds ++ vs.map .int)), s4', s5', .emp, s7', s8']) ∧ vs.length = n ∧ ∀ v ∈ vs, (0 : Int) ≤ v ∧ v < 1000
  | 0, k, R, Ds, s4, s5, s7, s8, _, _ => ⟨_, [], s4, s5, s7, s8, by rw [List.map_nil, List.append_nil]; rfl, rfl, fun _ h => by cases h⟩
  | n + 1, k, R, Ds, s4, s5, s7, s8, hD, hR => by
    obtain ⟨R1, v, s7', s8', e, hl, h1, h2⟩ := draw_one a b R Ds k s5 s7 s8 (by omega) hR
    obtain ⟨R', vs, t4, t5, t7, t8, e2, hn, hv⟩ := draw_loop a b n (k + 1) R1 (Ds ++ [.int v]) (.val (.int k)) (.val (.int v)) s7' s8' (by rw [List.length_append]; simp only [List.length_cons, List.length_nil]; omega) (by omega)
    refine ⟨R', v :: vs, t4, t5, t7, t8, ?_, by rw [List.length_cons, hn], fun z hz => ?_⟩
    · refine (forF_next (ρ1 := drF a b R Ds k s5 s7 s8) rfl e).trans ?_
      rw [List.append_assoc] at e2
      exact e2
    · rcases List.mem_cons.mp hz with rfl | hz
      · exact ⟨h1, h2⟩
      · exact hv z hz
theorem draws_run (xs : List Int) (n : Nat) (hx : xs.length ≤ LIM) (hn : n ≤ LIM) : ∃ vs : List Int, m__law_draws [.list (xs.map .int), .int n] = .ok (.own (vs.map .int)) ∧ vs.length = n ∧ ∀ v ∈ vs, (0 : Int) ≤ v ∧ v < 1000 := by
  unfold m__law_draws
  rw [defM_eq (np := 2) rfl, show frm0 9 [.list (xs.map .int), .int n] = [.val (.list (xs.map .int)), .val (.int n), .emp, .emp, .emp, .emp, .emp, .emp, .emp] from rfl]
  unfold F__law_draws
  rw [seq_ok (setL_ok (d := xs.map .int) ?_), seq_ok (setL_ok (d := []) rfl)]
  · show ∃ vs : List Int, outR (sSeq _ _ [.val (.list (xs.map .int)), .val (.int n), .own (.lst (xs.map .int)), .own (.lst []), .emp, .emp, .emp, .emp, .emp]) = _ ∧ _
    obtain ⟨R', vs, t4, t5, t7, t8, e, h1, h2⟩ := draw_loop (.val (.list (xs.map .int))) (.val (.int n)) n 0 xs [] .emp .emp .emp .emp (by rw [List.length_nil]; omega) hx
    refine ⟨vs, ?_, h1, h2⟩
    rw [seq_ok ((forR_ok (ds := upto 0 n) ((iF_ok (x := .int (n : Int)) rfl).trans (r1D_nat hn)) (upto_flat _ _)).trans e)]
    rfl
  · show okL (xs.map PyData.int).length (compF (Tg.nm 6) tYesR (eVar 6) _ (xs.map PyData.int)) = _
    rw [okL_ok (by rw [List.length_map]; exact hx), compF_map (g := fun d => d)]
    · rw [List.map_id']
    · intro d hd
      obtain ⟨z, _, rfl⟩ := List.mem_map.mp hd
      exact ⟨_, rfl, rfl, rfl⟩
end Com

set_option Elab.async false
set_option autoImplicit false
set_option linter.all false
set_option maxRecDepth 100000
set_option maxHeartbeats 2000000
namespace Pyr
open PySem PySem.Spec PyProof.Rows L2 Evl

/-! ### a, b = e -/
def sSetT (t : Tg) (fe : En → Res D) : Frm → Res Fl := fun ρ => (evP fe ρ).bind fun d => (tgF t d ρ).bind fun ρ' => .ok (.next ρ')
theorem ds_setT {TS : TabList} {X : Cx} {e tg : Expr} {fe : En → Res D} {pos : Pos} {t : Tg} (he : DE TS X e fe) (hg : PG X tg (gTg X.K t)) (hs : swapsWithSole [tg] e pos.line X.env = pure false := by rfl) (hw : swappedStores [tg] e X.env = pure none := by rfl)
    (h1 : (assignEach [tg] X.env).map (·.2) = [assign tg X.env] := by rfl) : DSt TS X (.Assign [tg] e pos) (sSetT t fe) := by
  refine ⟨?_⟩
  intro W ρ σ G_0 H_0 G H fp D tk s p
  refine wpSt_of (ps_asg (pe_wp X e) hg hs hw h1) ?_
  refine evP_run he tk s p fun v d G1 H1 g r p => ?_
  cases e1 : tgF t d ρ with
  | exc c fs => exact (tgF_exc e1).elim
  | bad =>
    rw [e1] at p
    exact p.elim
  | ok ρ' =>
    rw [e1] at p
    exact gTgF_ok r (s.grow g) e1 fun σ' s' => p σ' G1 H1 fp g.g s'

/-! ### is True -/
section
variable {TS : TabList} {X : Cx}
def isBD : D → D → Res D
  | .bool a, .bool b => .ok (.bool (decide (a = b)))
  | x, .none => isND x .none
  | _, _ => .bad

def notBD (x y : D) : Res D := (isBD x y).bind fun b => match b with
  | .bool b => .ok (.bool (!b))
  | _ => .bad
theorem od_isB : OpD TS X (compareOp .Is) isBD := by
  refine ⟨?_⟩
  intro W σ v u x y G H Q ok rx ry p
  cases ry with
  | non => cases rx <;> exact wpO_of op_isN ⟨rfl, fin1 ok p (.bl _)⟩
  | bl b =>
    cases rx with
    | bl a => exact wpO_of op_is_bl ⟨_, _, rfl, rfl, fin1 ok p (.bl _)⟩
    | _ => exact p.elim
  | _ => cases rx <;> exact p.elim
theorem od_notB : OpD TS X (compareOp .IsNot) notBD := by
  refine ⟨?_⟩
  intro W σ v u x y G H Q ok rx ry p
  cases ry with
  | non => cases rx <;> exact wpO_of op_notN ⟨rfl, fin1 ok p (.bl _)⟩
  | bl b =>
    cases rx with
    | bl a => exact wpO_of op_isnot_bl ⟨_, _, rfl, rfl, fin1 ok p (.bl _)⟩
    | _ => exact p.elim
  | _ => cases rx <;> exact p.elim

/-! ### sorted -/
def alikeB (ds : List D) : Bool := ds.all fun d => ds.all fun d' => PySem.W.alike d d'
def tupB : D → Bool
  | .tuple (_ :: _) => true
  | _ => false
def notTupB : D → Bool
  | .tuple _ => false
  | .none => false
  | _ => true
def sortableB (ds : List D) : Bool := ds.all tupB || ds.all notTupB
def sortC (ds : List D) : Bool := alikeB ds && sortableB ds && ds.all (fun d => flatD d && decide (d.depth ≤ 12)) && decide (ds.length ≤ LIM)
def sortL : D → Res (List D)
  | .list ds => if sortC ds then .ok (ds.mergeSort (PySem.W.dataLe false id)) else .bad
  | _ => .bad
theorem alike_of {ds : List D} (h : alikeB ds = true) : PySem.W.AllAlike ds := fun d hd d' hd' => List.all_eq_true.mp (List.all_eq_true.mp h d hd) d' hd'
theorem sortable_of {ds : List D} (h : sortableB ds = true) : PySem.W.Sortable ds := by
  unfold sortableB at h
  rw [Bool.or_eq_true] at h
  rcases h with h | h
  · refine .inl fun d hd => ?_
    have := List.all_eq_true.mp h d hd
    unfold tupB at this
    split at this
    · exact ⟨_, _, rfl⟩
    · cases this
  · refine .inr fun d hd => ?_
    have := List.all_eq_true.mp h d hd
    refine ⟨fun e => ?_, fun xs e => ?_⟩ <;> subst e <;> cases this
def RVD (K : PySem.W.Frag) (G : Hp) (u : Value) (d : D) : Prop := ∃ v : V, RelV v u ∧ Rp K G v d
theorem each_rvd {K : PySem.W.Frag} {G : Hp} : ∀ {vs : List V} {us : List Value} {ds : List D}, Vals vs us → Rps K G vs ds → PySem.W.EachIs (RVD K G) us ds
  | _, _, _, .nil, .nil => .nil
  | _, _, _, .cons r rs, .cons h hs => .cons ⟨_, r, h⟩ (each_rvd rs hs)
theorem rvd_each {K : PySem.W.Frag} {G : Hp} : ∀ {us : List Value} {ds : List D}, PySem.W.EachIs (RVD K G) us ds → ∃ vs : List V, Vals vs us ∧ Rps K G vs ds
  | _, _, .nil => ⟨[], .nil, .nil⟩
  | _, _, .cons ⟨v, r, h⟩ hs => by
    obtain ⟨vs, a, b⟩ := rvd_each hs
    exact ⟨v :: vs, .cons r a, .cons h b⟩
theorem cl_sorted (C : CtE X) : CallL TS X (.builtin "sorted") (oneL sortL) := by
  refine ⟨?_⟩
  intro W σ vs ds G H Q ok rs p
  unfold oneL at p
  split at p
  · obtain ⟨v, rfl, r⟩ := rs.one_inv
    rename_i d
    cases d with
    | list ds =>
      have p : PostG (RelL X.K) TS X W σ G H (if sortC ds then .ok (ds.mergeSort (PySem.W.dataLe false id)) else .bad) Q := p
      split at p
      · rename_i hc
        unfold sortC at hc
        simp only [Bool.and_eq_true, decide_eq_true_eq] at hc
        obtain ⟨⟨⟨h1, h2⟩, h3⟩, h4⟩ := hc
        obtain ⟨q, xs, rfl, hq, r⟩ := r.list_inv
        have hq' := ex_l ok.le hq
        intro pins s σ us I rv
        obtain ⟨its, rI, hl, _⟩ := I.list hq'
        rw [Vals.ref1 rv]
        have e1 := each_rvd rI r
        have er : PySem.W.EachIs (fun u d => ∃ as, Reads s.heap u (id d) as) its ds := (PySem.W.each_mem e1).mono fun u d ⟨⟨v, r1, r2⟩, hb⟩ => by
          have := List.all_eq_true.mp h3 d hb
          rw [Bool.and_eq_true] at this
          exact Dp.reads I d v u ((r2.mono ok.le).dp this.1) r1
        refine PySem.W.sorted_data (enc := id) (R := RVD X.K G) hl.isList e1 er (by rw [List.map_id]; exact alike_of h1) (by rw [List.map_id]; exact sortable_of h2) (lim_line h4) (fun d hd => ?_) fun out ho hO => ?_
        · have := List.all_eq_true.mp h3 d hd
          rw [Bool.and_eq_true] at this
          have h5 := of_decide_eq_true this.2
          have h6 := C.un
          show _ + 2 + d.depth < _
          omega
        · obtain ⟨ws, rw', rp⟩ := rvd_each hO
          obtain ⟨ep, he'⟩ := PyProof.Rows.sortedAll_at s.heap its (List.toArray out)
          have hlen : ws.length ≤ sizeLine := by
            rw [rw'.length, ho]
            exact lim_line h4
          have hf := I.hok.fresh (Nat.le_succ s.heap.objs.size)
          have g := Gr.own (o := .lst ws) ok hf
          exact ⟨.ref _, upd H (s.heap.objs.size + 1) (.lst ws), I.laid (t' := s.toks) (fun _ _ => PyProof.Rows.sortedAll_old) (Nat.le_succ _) ⟨hlen, out, ep, rw', he'⟩, rfl, p _ G _ g ⟨_, ws, rfl, hf, fresh_back ok.le hf, upd_same, rp⟩⟩
      · exact p.elim
    | _ => exact p.elim
  · exact p.elim
end
end Pyr

set_option Elab.async false
set_option autoImplicit false
set_option linter.all false
set_option maxRecDepth 100000
set_option maxHeartbeats 2000000
namespace Pyr
open PySem PySem.Spec PyProof.Rows L2 Evl

/-! ### raise X(), an own class without own __init__ -/
abbrev veM : List Value := [.type "ValueError", .type "Exception", .type "BaseException", .type "object"]
/-- an own exception class without own __init__, known by its name -/
structure ExcC (K : PySem.W.Frag) (mg : Str → Option Value) (x : Str) (C : Addr) : Prop where
  is : PySem.W.excIn K C veM "ValueError.__new__" = true
  at_ : mg x = some (.ref C)
  kp : PySem.W.keepIn K (.ref C) = true
  sub : PySem.W.subIn K (.ref C) (.type "BaseException") = some true
  ty : PySem.W.typeIn K (.ref C) = some (.type "type")
section
variable {TS : TabList} {X : Cx} {C : Addr} {x : Str}
theorem pmk_own0 {p pos : Pos} (e : ExcC X.K X.mg x C) (hg : Gl X x) (hdb : (x == ("__debug__" : Str)) = false := by decide) : PMk X (.Call (.Name x p) [] [] pos) (fun _ H Q => Q (.ref C) none H) := by
  intro pins s σ H Q I h
  refine wpAny_Call_Name_kw (ld_glob I hg e.at_ ?_ hdb)
  refine PySem.W.callWith_K0 I.kIn e.kp ?_
  show wpAny _ _ (call (.ref C) []) _ _ _
  obtain ⟨bm, N, nm, qn, bs, hdct, sn, sub, ab, col, dd, k0, k1, k2, k3, k5, mN, hC, hN, hni, T⟩ := exc_obj I.kIn e.is
  refine wpAny_call_exc_subT _root_.PySem.F.excBase_ValueError T hC hN hni (fun h' a hm => ?_) (by show 0 ≤ sizeLine; rw [sizeLine_eq]; omega)
  exact mk_of I hm (raises_own e.sub e.ty) h (I.hok.gone hm.new)
def sRaise (c : Str) : Frm → Res Fl := fun _ => .exc c []
theorem ds_raise0 {p pos pos2 : Pos} (Ct : CtE X) (e : ∃ C, ExcC X.K X.mg x C) (hg : Gl X x) (hdb : (x == ("__debug__" : Str)) = false := by decide) : DSt TS X (.Raise (some (.Call (.Name x p) [] [] pos)) none pos2) (sRaise x) := by
  obtain ⟨C, e⟩ := e
  refine ⟨?_⟩
  intro W ρ σ G_0 H_0 G H fp D tk s p
  exact wpSt_of (ps_raise Ct.calm tk (pmk_own0 e hg hdb)) (p C none σ G H e.at_ s.gr rfl)
end
end Pyr

set_option Elab.async false
set_option autoImplicit false
set_option linter.all false
set_option maxRecDepth 100000
set_option maxHeartbeats 2000000
/-! texts: x * n, f-strings; while -/
namespace Pyr
open PySem PySem.Spec PyProof.Rows L2 Evl

/-! ### x * n -/
def repS (x : Str) (n : Nat) : Str := ⟨(List.replicate n x.cps.toList).flatten.toArray⟩
theorem fold_arr (a : Array Nat) : ∀ (n : Nat) (b : Array Nat), ((List.replicate n a).foldl (· ++ ·) b).toList = b.toList ++ (List.replicate n a.toList).flatten
  | 0, b => by simp
  | n + 1, b => by
    rw [List.replicate_succ, List.foldl_cons, fold_arr a n, List.replicate_succ, List.flatten_cons, Array.toList_append, List.append_assoc]
theorem txt_mul (x : Str) (n : Int) : Txt.mul x n = repS x n.toNat := by
  unfold Txt.mul
  by_cases h : n < 1
  · rw [if_pos h]
    have : n.toNat = 0 := by omega
    rw [this]
    rfl
  · rw [if_neg h]
    by_cases h2 : (n == 1 || x.length == 0) = true
    · rw [if_pos h2]
      apply TL.ext_tl
      show x.cps.toList = (List.replicate n.toNat x.cps.toList).flatten
      rw [Bool.or_eq_true] at h2
      rcases h2 with h2 | h2
      · have : n.toNat = 1 := by
          have := eq_of_beq h2
          omega
        rw [this]
        simp
      · have h3 : x.cps.size = 0 := eq_of_beq h2
        have h4 : x.cps.toList = [] := by
          have : x.cps.toList.length = 0 := by simpa using h3
          exact List.eq_nil_of_length_eq_zero this
        rw [h4]
        simp
    · rw [if_neg h2]
      apply TL.ext_tl
      show ((List.replicate n.toNat x.cps).foldl (· ++ ·) #[]).toList = _
      rw [fold_arr]
      rfl
section
variable {TS : TabList} {X : Cx}
theorem op_mul_str : OpR X (binaryOp .Mult) (fun x y H Q => ∃ i n, x = .str i ∧ y = .int n ∧ n.natAbs ≤ LIM ∧ i.length * n.toNat ≤ LIM ∧ Q (.str (repS i n.toNat)) H) := by
  intro pins s σ H x y v u Q I rx ry h
  obtain ⟨i, n, rfl, rfl, h1, h2, q⟩ := h
  obtain ⟨t, rfl⟩ := rx
  obtain ⟨t', rfl⟩ := ry
  have h1 : n.natAbs ≤ 100000 := h1
  have h2 : i.length * n.toNat ≤ 100000 := h2
  refine PySem.SB.mul ⟨?_, ?_, ?_⟩ fun t' k => ?_
  · rw [decide_eq_false (by omega), decide_eq_false (by omega)]
    rfl
  · intro a b hh
    have hn : 0 < n := by omega
    have := (Int.ediv_lt_iff_lt_mul hn).mp hh
    have e : ((i.length * n.toNat : Nat) : Int) = (i.length : Int) * n := by
      rw [Int.natCast_mul, Int.toNat_of_nonneg (by omega)]
    omega
  · intro _ _
    have : i.length * n.toNat ≤ sizeLine := Nat.le_trans h2 (by decide)
    exact decide_eq_false (by
      have e : sizeLine ≤ 2 ^ 63 - 1 - 64 := by decide
      omega)
  · rw [txt_mul]
    exact ⟨.str (repS i n.toNat), H, I.tok _, ⟨_, rfl⟩, q⟩
def mul2D : D → D → Res D
  | .str x, .int n => if n.natAbs ≤ LIM ∧ x.length * n.toNat ≤ LIM then .ok (.str (repS x n.toNat)) else .bad
  | .int i, .int j => mulD (.int i) (.int j)
  | _, _ => .bad
theorem od_mul2 : OpD TS X (binaryOp .Mult) mul2D := by
  refine ⟨?_⟩
  intro W σ v u x y G H Q ok rx ry p
  unfold mul2D at p
  split at p
  · cases rx
    cases ry
    split at p
    · rename_i h
      exact wpO_of op_mul_str ⟨_, _, rfl, rfl, h.1, h.2, fin1 ok p (.str _)⟩
    · exact p.elim
  · exact od_mul W σ v u _ _ G H Q ok rx ry p
  · exact p.elim

/-! ### f-strings -/
def fmtD : D → Res D
  | .str x => okL x.length (.ok (.str x))
  | .int i => if i.natAbs.log2 < 1920 then .ok (.str (Str.ofString (toString i))) else .bad
  | _ => .bad
variable {a : Expr} {fa : En → Res D} {es rest : List Expr} {fr : En → Res Str} {pos : Pos}
theorem de_fmt (ha : DE TS X a fa) : DE TS X (.FormattedValue a (-1) none pos) (e1 fmtD fa) := by
  refine ⟨?_⟩
  intro W ρ σ G H Q tk re ok post
  refine wpE_of (pe_fmt (pe_wp X a)) ?_
  unfold tFmt
  refine bindP back_E (fun Q' h => ha W ρ σ G H Q' tk re ok h) post fun v x G1 H1 _ g1 r post1 => ?_
  cases r with
  | str y =>
    obtain ⟨h, p⟩ := okL_post post1
    exact Or.inl ⟨y, rfl, lim_line h, p _ G1 H1 (Gr.refl g1.ok) (.str _)⟩
  | int i =>
    have post1 : PostG (RelE X.K) TS X W σ G1 H1 (if i.natAbs.log2 < 1920 then .ok (.str (Str.ofString (toString i))) else .bad) Q := post1
    split at post1
    · rename_i h
      exact Or.inr ⟨i, rfl, h, post1 _ G1 H1 (Gr.refl g1.ok) (.str _)⟩
    · exact post1.elim
  | _ => exact post1.elim
abbrev RelS : Hp → Hp → Hp → Str → Str → Prop := fun _ _ _ v b => v = b
theorem back_S : Back RelS := fun _ _ _ _ _ _ _ h => h
/-- the texts one behind the other, behind acc -/
structure DJ (TS : TabList) (X : Cx) (es : List Expr) (f : En → Res Str) : Prop where
  run : ∀ (W : WX) (ρ : En) (σ : L2.St) (acc : Str) (G H : Hp) (Q : Str → Hp → Prop), Takes X W → RpE TS X.K G H ρ σ → Ok0 TS G H → PostG RelS TS X W σ G H ((f ρ).bind fun y => okL (acc ++ y).length (.ok (acc ++ y))) Q → tJs (es.map (wpE X)) acc σ H Q
def jC (fa : En → Res D) (fr : En → Res Str) : En → Res Str := fun ρ => (fa ρ).bind fun x => match x, fr ρ with
  | .str y, .ok r => .ok (y ++ r)
  | _, _ => .bad
def j0 : En → Res Str := fun _ => .ok Str.empty
theorem tl_app (x y : Str) : (x ++ y).cps.toList = x.cps.toList ++ y.cps.toList := by rw [Str.cps_append, Array.toList_append]
theorem app_empty (x : Str) : x ++ Str.empty = x := TL.ext_tl (by show (x ++ Str.empty).cps.toList = x.cps.toList; rw [tl_app]; simp [Str.empty])
theorem app_assoc (x y z : Str) : x ++ y ++ z = x ++ (y ++ z) := TL.ext_tl (by show (x ++ y ++ z).cps.toList = (x ++ (y ++ z)).cps.toList; simp only [tl_app, List.append_assoc])
theorem app_len (x y : Str) : (x ++ y).length = x.length + y.length := by simp only [tl_len, tl_app, List.length_append]
theorem dj_nil : DJ TS X [] j0 := .mk fun W ρ σ acc G H Q tk re ok post => by
  have post : PostG RelS TS X W σ G H (okL (acc ++ Str.empty).length (.ok (acc ++ Str.empty))) Q := post
  obtain ⟨_, p⟩ := okL_post post
  rw [app_empty] at p
  exact p acc G H (Gr.refl ok) rfl
theorem dj_cons (ha : DE TS X a fa) (hr : DJ TS X es fr) : DJ TS X (a :: es) (jC fa fr) := .mk fun W ρ σ acc G H Q tk re ok post => by
  have e : ((jC fa fr ρ).bind fun y => okL (acc ++ y).length (Res.ok (acc ++ y))) = (fa ρ).bind fun x => (match x, fr ρ with
    | .str y, .ok r => .ok (y ++ r)
    | _, _ => .bad : Res Str).bind fun y => okL (acc ++ y).length (Res.ok (acc ++ y)) := by
    unfold jC
    cases fa ρ <;> rfl
  rw [e] at post
  show wpE X a σ H fun x H1 => ∃ y : Str, x = .str y ∧ (acc ++ y).length ≤ sizeLine ∧ tJs (es.map (wpE X)) (acc ++ y) σ H1 Q
  refine bindP back_S (fun Q' h => ha W ρ σ G H Q' tk re ok h) post fun v x G1 H1 _ g1 r post1 => ?_
  cases r with
  | str y =>
    cases hf : fr ρ with
    | ok r =>
      rw [hf] at post1
      have post1 : PostG RelS TS X W σ G1 H1 (okL (acc ++ (y ++ r)).length (.ok (acc ++ (y ++ r)))) Q := post1
      have hl := (okL_post post1).1
      rw [← app_assoc] at post1
      refine ⟨y, rfl, ?_, hr.run W ρ σ (acc ++ y) G1 H1 Q tk (re.mono g1) g1.ok (by rw [hf]; exact post1)⟩
      rw [← app_assoc, app_len] at hl
      exact lim_line (by omega)
    | exc c fs =>
      rw [hf] at post1
      exact post1.elim
    | bad =>
      rw [hf] at post1
      exact post1.elim
  | _ => exact post1.elim
def eFs (fr : En → Res Str) : En → Res D := fun ρ => (fr ρ).bind fun y => okL y.length (.ok (.str y))
theorem pj_wp : ∀ es : List Expr, PJ X es (es.map (wpE X))
  | [] => .nil
  | e :: es => .cons (pe_wp X e) (pj_wp es)
theorem de_fstr {v1 v2 : Expr} (h : DJ TS X (v1 :: v2 :: rest) fr) : DE TS X (.JoinedStr (v1 :: v2 :: rest) pos) (eFs fr) := by
  refine ⟨?_⟩
  intro W ρ σ G H Q tk re ok post
  refine wpE_of (pe_joined (pj_wp _)) ?_
  refine h.run W ρ σ Str.empty G H _ tk re ok ?_
  have post : PostG (RelE X.K) TS X W σ G H ((fr ρ).bind fun y => okL y.length (.ok (.str y))) Q := post
  have ee : ∀ y : Str, Str.empty ++ y = y := fun y => TL.ext_tl (by show (Str.empty ++ y).cps.toList = y.cps.toList; rw [tl_app]; simp [Str.empty])
  cases hf : fr ρ with
  | ok y =>
    rw [hf] at post
    obtain ⟨hl, p⟩ := okL_post post
    show PostG RelS TS X W σ G H (okL (Str.empty ++ y).length (.ok (Str.empty ++ y))) _
    rw [ee, okL_ok hl]
    intro v G' H' g e
    cases e
    exact p _ G' H' g (.str y)
  | exc c fs =>
    rw [hf] at post
    exact post
  | bad =>
    rw [hf] at post
    exact post.elim
theorem de_fstr1 (ha : DE TS X a fa) : DE TS X (.JoinedStr [a] pos) fa := .mk fun W ρ σ G H Q tk re ok post => wpE_of (pe_joined1 (pe_wp X a)) (ha W ρ σ G H Q tk re ok post)
end
end Pyr

set_option Elab.async false
set_option autoImplicit false
set_option linter.all false
set_option maxRecDepth 100000
set_option maxHeartbeats 2000000
/-! running by rewriting -/
namespace Pyr
open PySem PySem.Spec PyProof.Rows L2 Evl
theorem run_mul {i j : Int} (h : -1099511627776 < j ∧ j < 1099511627776) : mul2D (.int i) (.int j) = .ok (.int (i * j)) := if_pos (.inr ⟨by omega, by omega⟩)
theorem run_mulS {x : Str} {n : Int} (h : n.natAbs ≤ 100000 ∧ x.length * n.toNat ≤ 100000) : mul2D (.str x) (.int n) = .ok (.str (repS x n.toNat)) := if_pos h
theorem run_add {i j : Int} : addD (.int i) (.int j) = .ok (.int (i + j)) := rfl
theorem run_sub {i j : Int} : subD (.int i) (.int j) = .ok (.int (i - j)) := rfl
theorem run_addS {x y : Str} (h : x.length + y.length ≤ 100000) : addD (.str x) (.str y) = .ok (.str (x ++ y)) := okL_ok h
theorem run_mod {i j : Int} (h : j ≠ 0) : modD (.int i) (.int j) = .ok (.int (i.fmod j)) := if_pos h
theorem run_fdiv {i j : Int} (h : j ≠ 0 ∧ j.natAbs < 1073741824) : fdivD (.int i) (.int j) = .ok (.int (i.fdiv j)) := if_pos h
theorem run_lt {i j : Int} : ltD (.int i) (.int j) = .ok (.bool (decide (i < j))) := rfl
theorem run_le {i j : Int} : leD (.int i) (.int j) = .ok (.bool (decide (i ≤ j))) := rfl
theorem run_gt {i j : Int} : gtD (.int i) (.int j) = .ok (.bool (decide (j < i))) := rfl
theorem run_ge {i j : Int} : geD (.int i) (.int j) = .ok (.bool (decide (j ≤ i))) := rfl
theorem run_lenL {ds : List D} : lenD (.list ds) = .ok (.int ds.length) := rfl
theorem run_lenT {ds : List D} : lenD (.tuple ds) = .ok (.int ds.length) := rfl
theorem run_okL {α : Type} {n : Nat} {r : Res α} (h : n ≤ 100000) : okL n r = r := okL_ok h
theorem run_lenS {x : Str} (h : x.length ≤ 100000) : lenD (.str x) = .ok (.int x.length) := okL_ok h
theorem run_int {i : Int} : int2D (.int i) = .ok (.int i) := rfl
theorem run_bool {b : Bool} : boolD (.bool b) = .ok b := rfl
theorem run_truB {b : Bool} : truD (.bool b) = .ok b := rfl
theorem run_truL {ds : List D} : truD (.list ds) = .ok (!ds.isEmpty) := rfl
theorem run_purV {d : D} {ρ : Frm} : purE (Sl.val d :: ρ) = some d :: purE ρ := rfl
theorem run_purE {ρ : Frm} : purE (Sl.emp :: ρ) = none :: purE ρ := rfl
theorem run_purO {ds : List D} {ρ : Frm} : purE (Sl.own (.lst ds) :: ρ) = some (loD ds) :: purE ρ := rfl
theorem run_frzV {d : D} {ρ : Frm} : frzE (Sl.val d :: ρ) = some d :: frzE ρ := rfl
theorem run_frzE {ρ : Frm} : frzE (Sl.emp :: ρ) = none :: frzE ρ := rfl
theorem run_frzL {ds : List D} {ρ : Frm} : frzE (Sl.own (.lst ds) :: ρ) = some (.list ds) :: frzE ρ := rfl
def purS : Sl → Option D
  | .val d => some d
  | .own (.lst ds) => some (loD ds)
  | .own (.set ds) => some (stD ds)
  | .emp => none
def frzS : Sl → Option D
  | .val d => some d
  | .own o => o.d
  | .emp => none
theorem run_pur1 {x : Sl} {ρ : Frm} : purE (x :: ρ) = purS x :: purE ρ := by
  cases x with
  | own o => cases o <;> rfl
  | _ => rfl
theorem run_frz1 {x : Sl} {ρ : Frm} : frzE (x :: ρ) = frzS x :: frzE ρ := rfl
theorem run_pSv {d : D} : purS (.val d) = some d := rfl
theorem run_pSo {ds : List D} : purS (.own (.lst ds)) = some (loD ds) := rfl
theorem run_pSe : purS .emp = none := rfl
theorem run_fSv {d : D} : frzS (.val d) = some d := rfl
theorem run_fSo {ds : List D} : frzS (.own (.lst ds)) = some (.list ds) := rfl
theorem run_fSe : frzS .emp = none := rfl
theorem run_pur0 : purE [] = [] := rfl
theorem run_frz0 : frzE [] = [] := rfl
theorem run_v0 {d : D} {ρ : En} (h : isLo d = false) : eVar 0 (some d :: ρ) = .ok d := by
  show (if isLo d = true then Res.bad else .ok d) = _
  rw [h]
  rfl
theorem run_v0n {ρ : En} : eVar 0 (some PyData.none :: ρ) = .ok .none := rfl
theorem run_v0b {b : Bool} {ρ : En} : eVar 0 (some (.bool b) :: ρ) = .ok (.bool b) := rfl
theorem run_v0i {i : Int} {ρ : En} : eVar 0 (some (.int i) :: ρ) = .ok (.int i) := rfl
theorem run_v0s {x : Str} {ρ : En} : eVar 0 (some (.str x) :: ρ) = .ok (.str x) := rfl
theorem run_v0l {ds : List D} {ρ : En} : eVar 0 (some (.list ds) :: ρ) = .ok (.list ds) := rfl
theorem run_v0t {ds : List D} {ρ : En} : eVar 0 (some (.tuple ds) :: ρ) = .ok (.tuple ds) := rfl
theorem run_v0o {ds : List D} {ρ : En} : eVar 0 (some (loD ds) :: ρ) = .bad := rfl
theorem run_vN {ρ : En} : eVar 0 (none :: ρ) = .bad := rfl
theorem run_vS {i : Nat} {x : Option D} {ρ : En} : eVar (i + 1) (x :: ρ) = eVar i ρ := rfl
theorem run_bad {α β : Type} {k : α → Res β} : (Res.bad : Res α).bind k = .bad := rfl
theorem run_exc {α β : Type} {c : Str} {fs : List (Str × D)} {k : α → Res β} : (Res.exc c fs : Res α).bind k = .exc c fs := rfl
theorem run_map {α β : Type} {f : α → β} {a : α} : (Res.ok a).map f = .ok (f a) := rfl
theorem isi_str_n : isiD "str" (PyData.none) = .ok (.bool false) := rfl
theorem isi_str_b {b : Bool} : isiD "str" (.bool b) = .ok (.bool false) := rfl
theorem isi_str_i {i : Int} : isiD "str" (.int i) = .ok (.bool false) := rfl
theorem isi_str_s {s : Str} : isiD "str" (.str s) = .ok (.bool true) := rfl
theorem isi_str_l {l : List D} : isiD "str" (.list l) = .ok (.bool false) := rfl
theorem isi_str_t {t : List D} : isiD "str" (.tuple t) = .ok (.bool false) := rfl
theorem isi_str_d {d : List (D × D)} : isiD "str" (.dict d) = .ok (.bool false) := rfl
theorem isi_int_n : isiD "int" (PyData.none) = .ok (.bool false) := rfl
theorem isi_int_b {b : Bool} : isiD "int" (.bool b) = .ok (.bool true) := rfl
theorem isi_int_i {i : Int} : isiD "int" (.int i) = .ok (.bool true) := rfl
theorem isi_int_s {s : Str} : isiD "int" (.str s) = .ok (.bool false) := rfl
theorem isi_int_l {l : List D} : isiD "int" (.list l) = .ok (.bool false) := rfl
theorem isi_int_t {t : List D} : isiD "int" (.tuple t) = .ok (.bool false) := rfl
theorem isi_int_d {d : List (D × D)} : isiD "int" (.dict d) = .ok (.bool false) := rfl
theorem isi_bool_n : isiD "bool" (PyData.none) = .ok (.bool false) := rfl
theorem isi_bool_b {b : Bool} : isiD "bool" (.bool b) = .ok (.bool true) := rfl
theorem isi_bool_i {i : Int} : isiD "bool" (.int i) = .ok (.bool false) := rfl
theorem isi_bool_s {s : Str} : isiD "bool" (.str s) = .ok (.bool false) := rfl
theorem isi_bool_l {l : List D} : isiD "bool" (.list l) = .ok (.bool false) := rfl
theorem isi_bool_t {t : List D} : isiD "bool" (.tuple t) = .ok (.bool false) := rfl
theorem isi_bool_d {d : List (D × D)} : isiD "bool" (.dict d) = .ok (.bool false) := rfl
theorem isi_list_n : isiD "list" (PyData.none) = .ok (.bool false) := rfl
theorem isi_list_b {b : Bool} : isiD "list" (.bool b) = .ok (.bool false) := rfl
theorem isi_list_i {i : Int} : isiD "list" (.int i) = .ok (.bool false) := rfl
theorem isi_list_s {s : Str} : isiD "list" (.str s) = .ok (.bool false) := rfl
theorem isi_list_l {l : List D} : isiD "list" (.list l) = .ok (.bool true) := rfl
theorem isi_list_t {t : List D} : isiD "list" (.tuple t) = .ok (.bool false) := rfl
theorem isi_list_d {d : List (D × D)} : isiD "list" (.dict d) = .ok (.bool false) := rfl
theorem isi_tuple_n : isiD "tuple" (PyData.none) = .ok (.bool false) := rfl
theorem isi_tuple_b {b : Bool} : isiD "tuple" (.bool b) = .ok (.bool false) := rfl
theorem isi_tuple_i {i : Int} : isiD "tuple" (.int i) = .ok (.bool false) := rfl
theorem isi_tuple_s {s : Str} : isiD "tuple" (.str s) = .ok (.bool false) := rfl
theorem isi_tuple_l {l : List D} : isiD "tuple" (.list l) = .ok (.bool false) := rfl
theorem isi_tuple_t {t : List D} : isiD "tuple" (.tuple t) = .ok (.bool true) := rfl
theorem isi_tuple_d {d : List (D × D)} : isiD "tuple" (.dict d) = .ok (.bool false) := rfl
theorem isi_dict_n : isiD "dict" (PyData.none) = .ok (.bool false) := rfl
theorem isi_dict_b {b : Bool} : isiD "dict" (.bool b) = .ok (.bool false) := rfl
theorem isi_dict_i {i : Int} : isiD "dict" (.int i) = .ok (.bool false) := rfl
theorem isi_dict_s {s : Str} : isiD "dict" (.str s) = .ok (.bool false) := rfl
theorem isi_dict_l {l : List D} : isiD "dict" (.list l) = .ok (.bool false) := rfl
theorem isi_dict_t {t : List D} : isiD "dict" (.tuple t) = .ok (.bool false) := rfl
theorem isi_dict_d {d : List (D × D)} : isiD "dict" (.dict d) = .ok (.bool true) := rfl
theorem run_atT0 {a : D} {l : List D} : atD (.tuple (a :: l)) (.int 0) = .ok a := at_tup (k := 0) rfl
theorem run_atT1 {a b : D} {l : List D} : atD (.tuple (a :: b :: l)) (.int 1) = .ok b := at_tup (k := 1) rfl
theorem run_atT2 {a b c : D} {l : List D} : atD (.tuple (a :: b :: c :: l)) (.int 2) = .ok c := at_tup (k := 2) rfl
theorem run_atT3 {a b c d : D} {l : List D} : atD (.tuple (a :: b :: c :: d :: l)) (.int 3) = .ok d := at_tup (k := 3) rfl
theorem run_atT4 {a b c d e : D} {l : List D} : atD (.tuple (a :: b :: c :: d :: e :: l)) (.int 4) = .ok e := at_tup (k := 4) rfl
theorem run_atL0 {a : D} {l : List D} : atD (.list (a :: l)) (.int 0) = .ok a := at_list (k := 0) rfl
theorem run_atL1 {a b : D} {l : List D} : atD (.list (a :: b :: l)) (.int 1) = .ok b := at_list (k := 1) rfl
theorem run_atL2 {a b c : D} {l : List D} : atD (.list (a :: b :: c :: l)) (.int 2) = .ok c := at_list (k := 2) rfl
theorem run_atL3 {a b c d : D} {l : List D} : atD (.list (a :: b :: c :: d :: l)) (.int 3) = .ok d := at_list (k := 3) rfl
theorem run_atL4 {a b c d e : D} {l : List D} : atD (.list (a :: b :: c :: d :: e :: l)) (.int 4) = .ok e := at_list (k := 4) rfl
end Pyr

set_option Elab.async false
set_option autoImplicit false
set_option linter.all false
set_option maxRecDepth 100000
set_option maxHeartbeats 2000000
/-! while; list.pop, list.extend; nested targets; min, max -/
namespace Pyr
open PySem PySem.Spec PyProof.Rows L2 Evl

/-! ### while -/
def whileF (ft : En → Res Bool) (F : Frm → Res Fl) : Nat → Frm → Res Fl
  | 0, _ => .bad
  | n + 1, ρ => (evT ft ρ).bind fun b => if b then (F ρ).bind fun fl => match fl with
      | .next ρ2 => whileF ft F n ρ2
      | .cont ρ2 => whileF ft F n ρ2
      | .brk ρ2 => .ok (.next ρ2)
      | .ret r => .ok (.ret r)
    else .ok (.next ρ)
section
variable {TS : TabList} {X : Cx} {W : WX} {c : Expr} {ft : En → Res Bool} {F : Frm → Res Fl} {body : List Stmt} {pos : Pos}
theorem ds_while (n : Nat) (hp : PassesOwn (model X.prog X.w) X.A X.env X.xe) (hc : DT TS X c ft) (hb : DSs TS X body F) : DSt TS X (.While c body [] pos) (whileF ft F n) := by
  refine ⟨?_⟩
  intro W ρ σ G_0 H_0 G H fp D tk s p
  refine wpSt_of (ps_while hp (pt_wp X c) (pss_wp X body)) ?_
  refine ⟨fun m σ H => ∃ ρ G' fp', SI TS X.K G_0 H_0 ρ σ G' H fp' ∧ PostS TS X W G_0 H_0 G' D (whileF ft F m ρ), ⟨n, ρ, G, fp, s, p⟩, ?_⟩
  rintro m σ H ⟨ρ, G', fp', s, p⟩
  cases m with
  | zero => exact p.elim
  | succ m =>
    refine evT_run hc tk s p fun b H1 g p => ?_
    cases b with
    | false =>
      rw [if_neg Bool.false_ne_true]
      exact p σ G' H1 fp' (Ex.refl G') (s.grow g)
    | true =>
      rw [if_pos rfl]
      refine ⟨fun σ' H' => ∃ ρ' G2 fp2, SI TS X.K G_0 H_0 ρ' σ' G2 H' fp2 ∧ PostS TS X W G_0 H_0 G2 D (whileF ft F m ρ'), fun σ' H' h => ⟨m, Nat.lt_succ_self m, h⟩, ?_⟩
      refine hb W ρ σ G_0 H_0 G' H1 fp' _ tk (s.grow g) ?_
      have p : PostS TS X W G_0 H_0 G' D ((F ρ).bind fun fl => match fl with
        | .next ρ2 => whileF ft F m ρ2
        | .cont ρ2 => whileF ft F m ρ2
        | .brk ρ2 => .ok (.next ρ2)
        | .ret r => .ok (.ret r)) := p
      cases hf : F ρ with
      | ok fl =>
        rw [hf] at p
        cases fl with
        | next ρ2 => exact fun σ3 G3 H3 fp3 e3 s3 => ⟨ρ2, G3, fp3, s3, p.shift e3⟩
        | cont ρ2 => exact fun σ3 G3 H3 fp3 e3 s3 => ⟨ρ2, G3, fp3, s3, p.shift e3⟩
        | brk ρ2 => exact fun σ3 G3 H3 fp3 e3 s3 => p σ3 G3 H3 fp3 e3 s3
        | ret r =>
          cases r with
          | val d => exact p
          | own ds => exact p
      | exc c fs =>
        rw [hf] at p
        exact p
      | bad =>
        rw [hf] at p
        exact p.elim
theorem while_end {n : Nat} {ρ : Frm} (h : evT ft ρ = .ok false) : whileF ft F (n + 1) ρ = .ok (.next ρ) := by
  show (evT ft ρ).bind _ = _
  rw [h]
  rfl
theorem while_next {n : Nat} {ρ ρ' : Frm} (h : evT ft ρ = .ok true) (hb : F ρ = .ok (.next ρ')) : whileF ft F (n + 1) ρ = whileF ft F n ρ' := by
  show (evT ft ρ).bind _ = _
  rw [h]
  show (F ρ).bind _ = _
  rw [hb]
  rfl
end

/-! ### targets within targets -/
mutual
inductive Tr where
  | nm (i : Nat)
  | tp (ts : Trs)
inductive Trs where
  | nil
  | cons (t : Tr) (ts : Trs)
end
def Trs.len : Trs → Nat
  | .nil => 0
  | .cons _ ts => ts.len + 1
mutual
def gTr (K : PySem.W.Frag) : Tr → TG
  | .nm i => gName i
  | .tp ts => gTup K ts.len (gTrs K ts)
def gTrs (K : PySem.W.Frag) : Trs → TGs
  | .nil => gNil
  | .cons t ts => gCons (gTr K t) (gTrs K ts)
end
mutual
def trF : Tr → D → Frm → Res Frm
  | .nm i, d, ρ => .ok (ρ.set i (.val d))
  | .tp ts, d, ρ => match d with
    | .tuple ds => if ds.length = ts.len then trsF ts ds ρ else .bad
    | _ => .bad
def trsF : Trs → List D → Frm → Res Frm
  | .nil, _, ρ => .ok ρ
  | .cons t ts, ds, ρ => match ds with
    | d :: ds => (trF t d ρ).bind fun ρ1 => trsF ts ds ρ1
    | [] => .bad
end
section
variable {TS : TabList} {K : PySem.W.Frag} {G_0 H_0 G H : Hp} {fp : Nat → List Addr}
mutual
theorem gTr_ok {Q : L2.St → Hp → Prop} : ∀ (t : Tr) {d : D} {v : V} {ρ ρ' : Frm} {σ : L2.St}, Rp K G v d → SI TS K G_0 H_0 ρ σ G H fp → trF t d ρ = .ok ρ' → (∀ σ', SI TS K G_0 H_0 ρ' σ' G H fp → Q σ' H) → gTr K t v σ H Q
  | .nm i, d, v, ρ, ρ', σ, r, s, e, k => by
    rw [trF] at e
    cases e
    rw [gTr]
    exact k _ (s.setVal r)
  | .tp ts, d, v, ρ, ρ', σ, r, s, e, k => by
    rw [gTr]
    cases r <;> simp only [trF] at e <;> try cases e
    rename_i a xs ds h rs
    split at e
    · rename_i hl
      exact ⟨a, xs, rfl, ex_t s.gr.ok.le h, by rw [rs.len, hl], gTrs_ok ts hl rs s e k⟩
    · cases e
theorem gTrs_ok {Q : L2.St → Hp → Prop} : ∀ (ts : Trs) {ds : List D} {vs : List V} {ρ ρ' : Frm} {σ : L2.St}, ds.length = ts.len → Rps K G vs ds → SI TS K G_0 H_0 ρ σ G H fp → trsF ts ds ρ = .ok ρ' → (∀ σ', SI TS K G_0 H_0 ρ' σ' G H fp → Q σ' H) → gTrs K ts vs σ H Q
  | .nil, ds, vs, ρ, ρ', σ, hl, rs, s, e, k => by
    rw [trsF] at e
    cases e
    cases rs with
    | nil =>
      rw [gTrs]
      exact ⟨rfl, k _ s⟩
    | cons _ _ => simp [Trs.len] at hl
  | .cons t ts, ds, vs, ρ, ρ', σ, hl, rs, s, e, k => by
    rw [gTrs]
    cases rs with
    | nil => simp [Trs.len] at hl
    | cons r rs =>
      rw [trsF] at e
      rename_i v vs d ds
      have e : (trF t d ρ).bind (fun ρ1 => trsF ts ds ρ1) = .ok ρ' := e
      cases e1 : trF t d ρ with
      | ok ρ1 =>
        rw [e1] at e
        refine ⟨v, vs, rfl, gTr_ok t r s e1 fun σ1 s1 => ?_⟩
        exact gTrs_ok ts (by simpa [Trs.len] using hl) rs s1 e k
      | exc c fs =>
        rw [e1] at e
        cases e
      | bad =>
        rw [e1] at e
        cases e
end
end

/-! ### x = xs.pop(), taken apart -/
def sPop (i : Nat) (t : Tr) : Frm → Res Fl := fun ρ => match ρ[i]? with
  | some (Sl.own (.lst ds)) => match ds.getLast? with
    | some d => match trF t d (ρ.set i (.own (.lst ds.dropLast))) with
      | .ok ρ' => .ok (.next ρ')
      | _ => .bad
    | none => .bad
  | _ => .bad
section
variable {TS : TabList} {X : Cx} {W : WX} {pos : Pos} {tg : Expr} {t : Tr}
theorem rps_last {K : PySem.W.Frag} {G : Hp} {vs : List V} {ds : List D} {d : D} (r : Rps K G vs ds) (h : ds.getLast? = some d) : ∃ v, vs[vs.length - 1]? = some v ∧ Rp K G v d := by
  rw [List.getLast?_eq_getElem?, ← r.len] at h
  exact r.at h
theorem rps_drop {K : PySem.W.Frag} {G : Hp} : ∀ {vs : List V} {ds : List D}, Rps K G vs ds → Rps K G vs.dropLast ds.dropLast
  | _, _, .nil => .nil
  | _, _, .cons r .nil => .nil
  | _, _, .cons r (.cons r2 rs) => .cons r (rps_drop (.cons r2 rs))
theorem ds_pop (i : Nat) {x : Str} {pos' apos cpos : Pos} (hg : PG X tg (gTr X.K t)) (hN : X.N[i]? = some x := by rfl) (hv : Vis X.env.scope x := by first | exact Or.inl rfl | exact Or.inr (Or.inl rfl) | exact Or.inr (Or.inr rfl)) (hd : (x == ("__debug__" : Str)) = false := by decide) (hcd : (x == ("__classdict__" : Str)) = false := by decide)
    (hbase : attributeBase (.Name x pos') "pop" X.env (eval (.Name x pos') X.env) = eval (.Name x pos') X.env := by rfl) (hline : (apos.endLine == cpos.line) = true := by rfl)
    (hs : swapsWithSole [tg] (.Call (.Attribute (.Name x pos') "pop" apos) [] [] cpos) pos.line X.env = pure false := by rfl) (hw : swappedStores [tg] (.Call (.Attribute (.Name x pos') "pop" apos) [] [] cpos) X.env = pure none := by rfl)
    (h1 : (assignEach [tg] X.env).map (·.2) = [assign tg X.env] := by rfl) :
    DSt TS X (.Assign [tg] (.Call (.Attribute (.Name x pos') "pop" apos) [] [] cpos) pos) (sPop i t) := by
  refine ⟨?_⟩
  intro W ρ σ G_0 H_0 G H fp D tk s p
  refine wpSt_of (ps_asg (pe_bm0 PySem.F.plainAttrs_list PySem.F.slot_list_pop PySem.F.type_list_pop mt_pop (pe_var hN hv hd hcd) hbase hline) hg hs hw h1) ?_
  unfold sPop at p
  split at p
  · rename_i ds hi
    obtain ⟨q, vs, h1, h2, r, z1, z2⟩ := own_at s hi
    split at p
    · rename_i d hl
      obtain ⟨y, hy, ry⟩ := rps_last r hl
      refine ⟨_, h1, Or.inl ⟨rfl, vs, SqL.of h2⟩, q, vs, y, rfl, rfl, h2, hy, ?_⟩
      have s1 := s.change hi h1 (rps_drop r)
      cases e1 : trF t d (ρ.set i (.own (.lst ds.dropLast))) with
      | ok ρ' =>
        rw [e1] at p
        exact gTr_ok t ry s1 e1 fun σ' s' => p σ' G _ fp (Ex.refl G) s'
      | exc c fs =>
        rw [e1] at p
        exact p.elim
      | bad =>
        rw [e1] at p
        exact p.elim
    · exact p.elim
  · exact p.elim
end
end Pyr

set_option Elab.async false
set_option autoImplicit false
set_option linter.all false
set_option maxRecDepth 100000
set_option maxHeartbeats 4000000
/-! t[::-1] of a tuple -/
namespace Pyr
open PySem PySem.Spec PyProof.Rows L2 Evl
section
variable {prog : Program} {w : World} {A : Around} {E : Value → Shared → Prop} {s : Shared}
theorem adj_back (n : Nat) : Builtin.Slice.sliceAdjust none none (-1) (n : Int) = ((n : Int) - 1, -1) := by
  unfold Builtin.Slice.sliceAdjust
  rfl
theorem plc_back (n : Nat) : Builtin.Slice.slicePlaces ((n : Int) - 1) (-1) (-1) = n := by
  unfold Builtin.Slice.slicePlaces
  rw [if_neg (by decide)]
  have e : -(-1 : Int) = 1 := by decide
  simp only [e, Int.ediv_one]
  split <;> omega
theorem app_back {b : Addr} {vl vu vs : Value} {n : Nat} {Q : Int × Int × Nat → Shared → Prop} (z : s.heap.IsSliceOf b vl vu vs) (pl : IsPart vl none) (pu : IsPart vu none) (ps : IsPart vs (some (-1)))
    (q : Q ((n : Int) - 1, -1, n) s) : wpAny (model prog w) A (Builtin.Slice.sliceApplied (.ref b) (pure (n : Int))) Q E s := by
  obtain ⟨ob, h1, h2, h3⟩ := id z
  unfold Builtin.Slice.sliceApplied Builtin.Slice.sliceFields
  refine wpAny_bind (wpAny_bind (wpAny_field h1 h3 (x := vl) rfl ?_))
  refine wpAny_bind (wpAny_field h1 h3 (x := vu) rfl ?_)
  refine wpAny_bind (wpAny_field h1 h3 (x := vs) rfl (wpAny_pure ?_))
  refine wpAny_bind (HT.slicePart_ ps ?_)
  show wpAny _ _ (if ((-1 : Int) == 0) = true then _ else _) _ _ s
  rw [if_neg (by decide)]
  refine wpAny_bind (HT.slicePart_ pl ?_)
  refine wpAny_bind (HT.slicePart_ pu ?_)
  refine wpAny_bind (wpAny_pure ?_)
  show wpAny _ _ (match Builtin.Slice.sliceAdjust none none (-1) (n : Int) with | (lo, hi) => pure (lo, (-1 : Int), Builtin.Slice.slicePlaces lo hi (-1))) _ _ s
  rw [adj_back]
  show wpAny _ _ (pure ((n : Int) - 1, (-1 : Int), Builtin.Slice.slicePlaces ((n : Int) - 1) (-1) (-1))) _ _ s
  rw [plc_back]
  exact wpAny_pure q
theorem fm_congr {α β : Type} {f g : α → Option β} : ∀ l : List α, (∀ x ∈ l, f x = g x) → l.filterMap f = l.filterMap g
  | [], _ => rfl
  | x :: l, h => by
    rw [List.filterMap_cons, List.filterMap_cons, h x List.mem_cons_self, fm_congr l fun y hy => h y (List.mem_cons_of_mem _ hy)]
theorem pick_back (xs : Array Value) : ((List.range xs.size).filterMap fun (k : Nat) => xs[((xs.size : Int) - 1 + (k : Int) * -1).toNat]?).toArray = xs.toList.reverse.toArray := by
  congr 1
  have e : ∀ k ∈ List.range xs.size, xs[((xs.size : Int) - 1 + (k : Int) * -1).toNat]? = xs[xs.size - 1 - k]? := fun k hk => by
    have := List.mem_range.mp hk
    have e2 : ((xs.size : Int) - 1 + (k : Int) * -1).toNat = xs.size - 1 - k := by omega
    rw [e2]
  have e3 : ((List.range xs.size).filterMap fun (k : Nat) => xs[((xs.size : Int) - 1 + (k : Int) * -1).toNat]?) = ((List.range xs.size).map fun k => xs.size - 1 - k).filterMap (xs[·]?) := by
    rw [List.filterMap_map]
    exact fm_congr _ e
  rw [e3, PySem.W.krv_range, List.filterMap_reverse, PySem.W.krv_all]
theorem get_back {t b : Addr} {its : Array Value} {vl vu vs : Value} {Q : Value → Shared → Prop} (ht : IsTup s.heap t its) (z : s.heap.IsSliceOf b vl vu vs) (pl : IsPart vl none) (pu : IsPart vu none) (ps : IsPart vs (some (-1)))
    (hz : its.size ≤ sizeLine) (q : Q (.ref s.heap.objs.size) { s with heap := s.heap.push { cls := .type "tuple", data := .seq its.toList.reverse.toArray } }) : wpAny (model prog w) A (getItem (.ref t) (.ref b)) Q E s := by
  have hk : sizeOk (.seq its.toList.reverse.toArray) := by
    show its.toList.reverse.toArray.size ≤ sizeLine
    simpa using hz
  obtain ⟨ob, h1, h2, h3⟩ := id z
  have tb : s.TypeIs (.ref b) "slice" := ⟨ob, h1, h2⟩
  unfold getItem
  try with_reducible refine wpAny_holding ?_
  first | refine wpAny_bind (wpAny_pure ?_) | skip
  refine wpAny_bind (wpAny_sequenceKey ht.typeIs (by decide) ?_)
  refine wpAny_bind (wpAny_callSpecial?_slot (name := Str.ofString "__getitem__") ht.typeIs PyProof.Rows.slot_tuple_getitem (wpAny_call_entry PyProof.Rows.slot_tuple_getitem ht.typeIs PyProof.Rows.entry_tuple_getitem ?_ (PyProof.Rows.args_tuple_getitem _ _)))
  show wpAny _ _ (Builtin.Tuple.tupleItemsOf (.ref t) >>= _) _ _ s
  refine wpAny_bind (PyProof.Rows.tupleItemsOf_ ht (wpAny_bind (wpAny_typeOf tb ?_)))
  rw [if_pos (by decide)]
  refine wpAny_bind (app_back z pl pu ps ?_)
  have no : ¬ ((((its.size : Int) - 1) == 0 && (-1 : Int) == 1 && its.size == its.size) = true) := by simp
  show wpAny _ _ (if (((its.size : Int) - 1) == 0 && (-1 : Int) == 1 && its.size == its.size) = true then _ else _) _ _ s
  rw [if_neg no, pick_back]
  first
    | exact wpAny_bind (m := Builtin.Tuple.tupleExact _) (wpAny_newObj_type (wpAny_pure ⟨_, rfl, wpAny_pure q⟩) hk)
    | exact wpAny_bind (m := Builtin.Tuple.tupleExact _) (wpAny_newObj_type (wpAny_bind (wpAny_pure (wpAny_pure ⟨_, rfl, wpAny_pure q⟩))) hk)
    | exact wpAny_bind (wpAny_bind (m := Builtin.Tuple.tupleExact _) (wpAny_newObj_type (wpAny_pure (wpAny_pure ⟨_, rfl, wpAny_pure q⟩)) hk))
    | exact wpAny_bind (wpAny_bind (m := Builtin.Tuple.tupleExact _) (wpAny_newObj_type (wpAny_pure ⟨_, rfl, wpAny_pure q⟩) hk))
end
section
variable {TS : TabList} {X : Cx} {a : Expr} {fa : En → Res D} {pos p1 p2 p3 : Pos} {k : Nat}
def tBackT (K : PySem.W.Frag) (te : TE) : TE := fun σ H Q => te σ H fun x H1 => ∃ a xs, x = .ref a ∧ SqT K H1 a xs ∧ ∀ p, H1 p = none → Q (.ref p) (upd H1 p (.tup xs.reverse))
theorem pe_backT {te : TE} (he : PE X a te) : PE X (.Subscript a (.Slice none none (some (.UnaryOp .USub (.Constant (.int 1) k p1) p2)) p3) pos) (tBackT X.K te) := by
  refine ⟨fun pins s0 σ H0 Q I0 hq => ?_⟩
  refine Subscript_ (thn (he.run pins s0 σ H0 _ I0 hq) fun v s ⟨x, H, I, rx, b, xs, ex, hx, q⟩ => ?_)
  subst ex
  cases rx
  have part : PO X (some (.UnaryOp .USub (.Constant (.int 1) k p1) p2)) (tPart (tUn (rU fun i => .int (-i)) (tC (.int 1)))) := po_some (pe_un un_neg pe_int)
  refine wpAny_Slice (thn (po_none.run pins s σ H (fun o H' => o = none ∧ H' = H) I ⟨rfl, rfl⟩) ?_)
  rintro vl sl ⟨l, Hl, Il, pl, el, eh⟩
  subst el eh
  refine thn (po_none.run pins sl σ Hl (fun o H' => o = none ∧ H' = Hl) Il ⟨rfl, rfl⟩) ?_
  rintro vu su ⟨u, Hu, Iu, pu, eu, eh⟩
  subst eu eh
  refine thn (part.run pins su σ Hu (fun o H' => o = some (-1) ∧ H' = Hu) Iu ⟨1, rfl, -1, rfl, rfl, rfl⟩) ?_
  rintro vs ss ⟨o, Hs, Is, ps, eo, eh⟩
  subst eo eh
  have J : Inv X pins σ Hs { ss with heap := ss.heap.push { cls := .type "slice", data := .fields #[vl, vu, vs] } } := Is.kept (t' := ss.toks) fun _ _ z => Heap.get?_push_of_some _ z
  obtain ⟨its, r, ht, hz⟩ := J.tuple hx
  have hl := r.length
  show wpAny (model X.prog X.w) X.A (subscriptTail a (.Slice none none (some (.UnaryOp .USub (.Constant (.int 1) k p1) p2)) p3) (.ref b) (.ref ss.heap.objs.size)) (EP X pins σ Q) X.xe { ss with heap := ss.heap.push { cls := .type "slice", data := .fields #[vl, vu, vs] } }
  refine tail_any (ops := [.ref b, .ref ss.heap.objs.size]) ht.typeIs PyProof.Rows.slot_tuple_getitem.lookup ?_ (by with_unfolding_all rfl)
  refine get_back ht (Heap.IsSliceOf.new _ vl vu vs) pl pu ps (by rw [List.size_toArray]; omega) ?_
  refine ⟨.ref _, _, J.laid (t' := ss.toks) (o := .tup xs.reverse) (fun _ _ z => Heap.get?_push_of_some _ z) (Nat.le_refl _) ?_, rfl, q _ (J.hok.fresh (Nat.le_refl _))⟩
  exact ⟨by rw [List.length_reverse]; exact hz, _, r.reverse, IsTup.new _ _⟩
def backD : D → Res D
  | .tuple ds => .ok (.tuple ds.reverse)
  | _ => .bad
theorem rps_app {K : PySem.W.Frag} {G : Hp} {v : V} {d : D} (r : Rp K G v d) : ∀ {vs : List V} {ds : List D}, Rps K G vs ds → Rps K G (vs ++ [v]) (ds ++ [d]) := fun h => h.app (.cons r .nil)
theorem rps_rev {K : PySem.W.Frag} {G : Hp} : ∀ {vs : List V} {ds : List D}, Rps K G vs ds → Rps K G vs.reverse ds.reverse
  | _, _, .nil => .nil
  | _, _, .cons r rs => by
    rw [List.reverse_cons, List.reverse_cons]
    exact rps_app r (rps_rev rs)
theorem de_back (ha : DE TS X a fa) : DE TS X (.Subscript a (.Slice none none (some (.UnaryOp .USub (.Constant (.int 1) k p1) p2)) p3) pos) (e1 backD fa) := by
  refine ⟨?_⟩
  intro W ρ σ G H Q tk re ok post
  refine wpE_of (pe_backT (pe_wp X a)) ?_
  unfold tBackT
  refine bindP back_E (fun Q' h => ha W ρ σ G H Q' tk re ok h) post fun v x G1 H1 _ g1 r p => ?_
  cases x with
  | tuple ds =>
    obtain ⟨b, xs, rfl, hb, rs⟩ := r.tup_inv
    refine ⟨b, xs, rfl, ex_t g1.ok.le hb, fun q hq => ?_⟩
    have g := Gr.new (o := .tup xs.reverse) g1.ok hq
    exact p _ _ _ g (.tup (.inl (.inl upd_same)) ((rps_rev rs).mono g.g))
  | _ => exact p.elim
end
end Pyr

set_option Elab.async false
set_option autoImplicit false
set_option linter.all false
set_option maxRecDepth 100000
set_option maxHeartbeats 2000000
/-! an own list's items; extend; min, max; a new list of two -/
namespace Pyr
open PySem PySem.Spec PyProof.Rows L2 Evl
section
variable {TS : TabList} {X : Cx} {a b e : Expr} {fa fb : En → Res D} {fl : En → Res (List D)} {pos : Pos}

/-! ### xs[j], xs an own list or data -/
def ownI (i : Nat) : En → Res (List D) := fun ρ => match ρ[i]? with
  | some (some (.dict [(.none, .list ds)])) => .ok ds
  | some (some (.list ds)) => .ok ds
  | _ => .bad
def eIxV (i : Nat) (fb : En → Res D) : En → Res D := fun ρ => (ownI i ρ).bind fun ds => (fb ρ).bind fun j => atD (.list ds) j
theorem own_there {K : PySem.W.Frag} {G H : Hp} {ρ : En} {σ : L2.St} {i : Nat} {ds : List D} (re : RpE TS K G H ρ σ) (ok : Ok0 TS G H) (h : ownI i ρ = .ok ds) : ∃ p vs, σ[i]? = some (some (.ref p)) ∧ SqL K H p vs ∧ (∀ G' H', Gr TS G H G' H' → SqL K H' p vs) ∧ Rps K G vs ds := by
  unfold ownI at h
  split at h
  · rename_i es he
    cases h
    obtain ⟨p, vs, h1, h2, h3⟩ := re.lo i _ he
    exact ⟨p, vs, h1, SqL.of h2, fun G' H' g => SqL.of (g.h.at h2 rfl), h3⟩
  · rename_i es he
    cases h
    obtain ⟨v, h1, r⟩ := re.at' i _ he rfl
    obtain ⟨p, vs, rfl, hp, rs⟩ := r.list_inv
    exact ⟨p, vs, h1, ex_l ok.le hp, fun G' H' g => ex_l (g.g.trans g.ok.le) hp, rs⟩
  · cases h
theorem de_ixV (i : Nat) {x : Str} {pos' : Pos} (hb : DE TS X b fb) (hN : X.N[i]? = some x := by rfl) (hv : Vis X.env.scope x := by first | exact Or.inl rfl | exact Or.inr (Or.inl rfl) | exact Or.inr (Or.inr rfl)) (hd : (x == ("__debug__" : Str)) = false := by decide) (hcd : (x == ("__classdict__" : Str)) = false := by decide)
    (hs : PlainIx b := by exact fun _ _ => rfl) : DE TS X (.Subscript (.Name x pos') b pos) (eIxV i fb) := by
  refine ⟨?_⟩
  intro W ρ σ G H Q tk re ok post
  have post : PostG (RelE X.K) TS X W σ G H ((ownI i ρ).bind fun ds => (fb ρ).bind fun j => atD (.list ds) j) Q := post
  refine wpE_of (pe_ix (ixr_wp) (pe_var hN hv hd hcd) (pe_wp X b) hs) ?_
  cases ho : ownI i ρ with
  | ok ds =>
    rw [ho] at post
    obtain ⟨p, vs, h1, h2, h3, h4⟩ := own_there re ok ho
    refine ⟨_, h1, ?_⟩
    refine bindP back_E (fun Q' h => hb W ρ σ G H Q' tk re ok h) post fun u y G2 H2 _ g2 ry p2 => ?_
    cases ry with
    | int j =>
      have p2 : PostG (RelE X.K) TS X W σ G2 H2 (match atI ds j with
        | some d => .ok d
        | none => .bad) Q := p2
      split at p2
      · rename_i d hd
        obtain ⟨w, e1, e2⟩ := atI_rel h4 hd
        exact wpI_of ix_list ⟨p, vs, j, w, rfl, rfl, h3 G2 H2 g2, e1, fin1 g2.ok p2 (e2.mono g2.g)⟩
      · exact p2.elim
    | _ => exact p2.elim
  | exc c fs =>
    unfold ownI at ho
    split at ho <;> cases ho
  | bad =>
    rw [ho] at post
    exact post.elim

/-! ### a new list of two -/
def lAdd (fa fb : En → Res D) : En → Res (List D) := fun ρ => (fa ρ).bind fun x => (fb ρ).bind fun y => match x, y with
  | .list xs, .list ys => okL (xs.length + ys.length) (.ok (xs ++ ys))
  | _, _ => .bad
theorem dl_add (ha : DE TS X a fa) (hb : DE TS X b fb) : DL TS X (.BinOp a .Add b pos) (lAdd fa fb) := by
  refine ⟨?_⟩
  intro W ρ σ G H Q tk re ok post
  refine wpE_of (pe_op op_catG (pe_wp X a) (pe_wp X b)) ?_
  refine bindP (wp := fun R => wpE X a σ H R) back_L (fun Q' p => ha W ρ σ G H Q' tk re ok p) post fun v x G1 H1 _ g1 rx p => ?_
  refine bindP (wp := fun R => wpE X b σ H1 R) back_L (fun Q' p => hb W ρ σ G1 H1 Q' tk (re.mono g1) g1.ok p) p fun u y G2 H2 _ g2 ry p => ?_
  cases x with
  | list xs =>
    cases y with
    | list ys =>
      obtain ⟨hl, p⟩ := okL_post p
      obtain ⟨l, as, rfl, h1, r1⟩ := rx.list_inv
      obtain ⟨m, bs, rfl, h2, r2⟩ := ry.list_inv
      have r1 := r1.mono g2.g
      refine ⟨l, m, as, bs, rfl, rfl, ex_l (g2.g.trans g2.ok.le) h1, ex_l g2.ok.le h2, lim_line (by rw [r1.len, r2.len]; exact hl), fun q hq => ?_⟩
      exact p _ _ _ (Gr.own (o := .lst (as ++ bs)) g2.ok hq) ⟨q, _, rfl, hq, fresh_back g2.ok.le hq, upd_same, r1.app r2⟩
    | _ => exact p.elim
  | _ => exact p.elim

/-! ### min, max -/
def intsD : List D → Option (List Int)
  | [] => some []
  | .int i :: ds => (intsD ds).map (i :: ·)
  | _ :: _ => none
theorem ints_of {K : PySem.W.Frag} {G : Hp} : ∀ {vs : List V} {ds : List D} {ns : List Int}, Rps K G vs ds → intsD ds = some ns → vs = ns.map V.int
  | _, _, _, .nil, h => by
    cases h
    rfl
  | _, _, ns, .cons r rs, h => by
    cases r <;> try cases h
    rename_i i
    unfold intsD at h
    obtain ⟨ms, h1, h2⟩ := Option.map_eq_some_iff.mp h
    subst h2
    rw [List.map_cons, ints_of rs h1]
theorem intsD_map : ∀ ns : List Int, intsD (ns.map .int) = some ns
  | [] => rfl
  | n :: ns => by
    show (intsD (ns.map .int)).map _ = _
    rw [intsD_map ns]
    rfl
def maxL : List Int → Int
  | [] => 0
  | [x] => x
  | x :: y :: r => max x (maxL (y :: r))
theorem maxL_mem : ∀ ns : List Int, ns ≠ [] → maxL ns ∈ ns
  | [], h => absurd rfl h
  | [x], _ => List.mem_cons_self
  | x :: y :: r, _ => by
    have ih := maxL_mem (y :: r) (by simp)
    show max x (maxL (y :: r)) ∈ _
    by_cases h : x ≤ maxL (y :: r)
    · rw [Int.max_eq_right h]
      exact List.mem_cons_of_mem _ ih
    · rw [Int.max_eq_left (by omega)]
      exact List.mem_cons_self
theorem maxL_le : ∀ (ns : List Int) (m : Int), m ∈ ns → m ≤ maxL ns
  | [x], m, h => by
    rw [List.mem_singleton.mp h]
    exact Int.le_refl _
  | x :: y :: r, m, h => by
    show m ≤ max x (maxL (y :: r))
    rcases List.mem_cons.mp h with rfl | h
    · exact Int.le_max_left _ _
    · exact Int.le_trans (maxL_le (y :: r) m h) (Int.le_max_right _ _)
def maxD : List D → Res D
  | [.int i, .int j] => .ok (.int (if j > i then j else i))
  | [.list ds] => match intsD ds with
    | some (n :: ns) => .ok (.int (maxL (n :: ns)))
    | _ => .bad
  | _ => .bad
def minD : List D → Res D
  | [.int i, .int j] => .ok (.int (if j < i then j else i))
  | _ => .bad
theorem run_max2 {i j : Int} : maxD [.int i, .int j] = .ok (.int (if j > i then j else i)) := rfl
theorem run_min2 {i j : Int} : minD [.int i, .int j] = .ok (.int (if j < i then j else i)) := rfl
theorem rps_two {K : PySem.W.Frag} {G : Hp} {vs : List V} {i j : Int} (r : Rps K G vs [.int i, .int j]) : vs = [.int i, .int j] := by
  cases r with
  | cons r rs => cases rs with
    | cons r2 rs2 =>
      cases rs2
      cases r
      cases r2
      rfl
theorem cd_max (C : CtE X) : CallD TS X (.builtin "max") maxD := by
  refine ⟨?_⟩
  intro W σ vs ds G H Q ok rs p
  unfold maxD at p
  split at p
  · rw [rps_two rs]
    exact wpC_of (call_max2 C.calm) ⟨_, _, rfl, fin1 ok p (.int _)⟩
  · rename_i xs
    obtain ⟨v, rfl, r⟩ := rs.one_inv
    obtain ⟨q, us, rfl, hq, r⟩ := r.list_inv
    split at p
    · rename_i n ns hn
      rw [ints_of r hn] at hq
      refine wpC_of (cr_max C.calm) ⟨q, n :: ns, rfl, ex_l ok.le hq, by simp, fun m hm hle => ?_⟩
      have e : m = maxL (n :: ns) := by
        have h1 := maxL_le _ m hm
        have h2 := hle _ (maxL_mem (n :: ns) (by simp))
        omega
      rw [e]
      exact fin1 ok p (.int _)
    · exact p.elim
  · exact p.elim
theorem cd_min (C : CtE X) : CallD TS X (.builtin "min") minD := by
  refine ⟨?_⟩
  intro W σ vs ds G H Q ok rs p
  unfold minD at p
  split at p
  · rw [rps_two rs]
    exact wpC_of (call_min2 C.calm) ⟨_, _, rfl, fin1 ok p (.int _)⟩
  · exact p.elim
theorem bt_max : bootBuiltins "max" = some (.builtin "max") := by decide +kernel
theorem bt_min : bootBuiltins "min" = some (.builtin "min") := by decide +kernel

/-! ### xs.extend(new list) -/
def sExt (i : Nat) (fl : En → Res (List D)) : Frm → Res Fl := fun ρ => match ρ[i]? with
  | some (Sl.own (.lst ds)) => (evL fl ρ).bind fun es => okL (ds.length + es.length) (.ok (.next (ρ.set i (.own (.lst (ds ++ es))))))
  | _ => .bad
theorem ds_ext (i : Nat) {x : Str} {pos' apos cpos : Pos} (he : DL TS X e fl) (hN : X.N[i]? = some x := by rfl) (hv : Vis X.env.scope x := by first | exact Or.inl rfl | exact Or.inr (Or.inl rfl) | exact Or.inr (Or.inr rfl)) (hd : (x == ("__debug__" : Str)) = false := by decide) (hcd : (x == ("__classdict__" : Str)) = false := by decide)
    (hbase : attributeBase (.Name x pos') "extend" X.env (eval (.Name x pos') X.env) = eval (.Name x pos') X.env := by rfl)
    (hfew : ((backTo cpos (starEach [e] X.env)).all (fun x => !x.1) && (backToKw cpos (keywordEach [] X.env)).all (fun x => x.1.isSome) && decide ([e].length + ([] : List Keyword).length + (if ([] : List Keyword).isEmpty then 0 else 1) < 30)) = true := by rfl)
    (hline : (apos.endLine == cpos.line) = true := by rfl) (hs : starEach [e] X.env = (false, eval e X.env) :: starEach [] X.env := by rfl) (hplain : (backTo cpos (starEach [] X.env)).any (·.1) = false := by rfl)
    (hsw : swapsWith (.Call (.Attribute (.Name x pos') "extend" apos) [e] [] cpos) none pos.line X.env = pure false := by rfl) :
    DSt TS X (.Expr (.Call (.Attribute (.Name x pos') "extend" apos) [e] [] cpos) pos) (sExt i fl) := by
  refine ⟨?_⟩
  intro W ρ σ G_0 H_0 G H fp D tk s p
  refine wpSt_of (ps_expr (pe_bm PySem.F.plainAttrs_list PySem.F.slot_list_extend PySem.F.type_list_extend mt_extend (pe_var hN hv hd hcd) (pa_cons (pe_wp X e) pa_nil hs) hbase hfew hline hs hplain) hsw) ?_
  unfold sExt at p
  split at p
  · rename_i ds hi
    obtain ⟨q, vs, h1, h2, r, z1, z2⟩ := own_at s hi
    refine ⟨_, h1, Or.inl ⟨rfl, vs, SqL.of h2⟩, ?_⟩
    refine evL_run he tk s p fun v es G1 H1 g rv p => ?_
    obtain ⟨b, us, rfl, hb0, hbG, hbH, rb⟩ := rv
    have hp : ds.length + es.length ≤ LIM ∧ PostS TS X W G_0 H_0 G D (.ok (.next (ρ.set i (.own (.lst (ds ++ es)))))) := by
      unfold okL at p
      split at p
      · exact ⟨by assumption, p⟩
      · exact p.elim
    have hq : H1 q = some (.lst vs) := g.h.at h2 rfl
    refine ⟨q, b, vs, us, rfl, rfl, hq, hbH, ?_, ?_⟩
    · rw [r.len, rb.len]
      exact Nat.le_trans hp.1 (by decide)
    · exact hp.2 σ G1 _ fp g.g ((s.grow g).change hi h1 ((r.mono g.g).app rb))
  · exact p.elim
end
end Pyr

set_option Elab.async false
set_option autoImplicit false
set_option linter.all false
set_option maxRecDepth 100000
set_option maxHeartbeats 4000000
/-! a, b, *c = a tuple -/
namespace Pyr
open PySem PySem.Spec PyProof.Rows L2 Evl
section
variable {prog : Program} {w : World} {A : Around} {E : Value → Shared → Prop} {s : Shared}
theorem star_items {t : Addr} {its : Array Value} {n : Nat} {Q : List Value → Shared → Prop} (hh : A.handled = none) (ht : IsTup s.heap t its) (hn : n ≤ its.size) (hz : its.size ≤ sizeLine)
    (q : ∀ (h' : Heap) (k : Nat), Heap.ExtBut s.heap.objs.size s.heap h' → Q (its.toList.take n ++ [.ref h'.objs.size]) { s with heap := h'.push { cls := .type "list", data := .seq (its.toList.drop n).toArray }, toks := k }) :
    wpAny (model prog w) A (unpackItems (.ref t) (n + 1) (some n)) Q E s := by
  have low : t ≠ s.heap.objs.size := by
    obtain ⟨o, ho, _⟩ := ht
    exact Nat.ne_of_lt (Heap.lt_size ho)
  unfold unpackItems
  refine wpAny_bind ?_
  unfold notIterableAtAll
  refine wpAny_bind (wpAny_specialOf ht.typeIs slot_tuple_iter.lookup (wpAny_pure ?_))
  simp only [Bool.false_eq_true, if_false]
  refine wpAny_bind (wpAny_holding (iter_tuple ht ?_))
  refine wpAny_bind (wpAny_holding (draw_tuple low n 0 _ _ ⟨_, Heap.get?_push_size _ rfl, rfl, rfl⟩ (ht.push _) (by omega) fun g1 i1 e1 => ?_))
  have t1 : IsTup g1 t its := (ht.push _).extBut e1.extBut low
  rw [Nat.zero_add] at i1
  obtain ⟨oi, hoi, _⟩ := id i1
  obtain ⟨ot, hot, _⟩ := id t1
  have hf : (its.toList.take n).length = n := by
    rw [List.length_take, Array.length_toList]
    omega
  rw [List.drop_zero, if_neg (by rw [hf]; omega)]
  refine wpAny_bind (wpAny_holding (PySem.W.kun_collect (s := { s with heap := g1 }) (T := "tuple_iterator") (.inr (.inr (.inr rfl))) (Walks.tuple (A := A.in1) hh s.heap.objs.size t low its) (fun j u st => st.1.typeIs) (k := n) hn ⟨i1, t1⟩ (Heap.lt_size hoi) (Heap.lt_size hot) (fun g2 k hk => ?_) hz))
  have hm : n + 1 - 1 - n = 0 := by omega
  show wpAny _ _ (if (its.toList.drop n).length < n + 1 - 1 - n then _ else _) _ _ _
  rw [if_neg (by rw [hm]; omega)]
  show wpAny _ _ (newList ((its.toList.drop n).take ((its.toList.drop n).length - (n + 1 - 1 - n))) >>= fun d => pure (its.toList.take n ++ [d] ++ (its.toList.drop n).drop ((its.toList.drop n).length - (n + 1 - 1 - n)))) _ _ _
  rw [hm, Nat.sub_zero, List.take_length, List.drop_length]
  refine wpAny_bind (wpAny_newList ?_ (by rw [List.length_drop, Array.length_toList]; omega))
  refine wpAny_pure ?_
  rw [List.append_nil]
  exact q g2 k fun b o hb e => hk b o hb (e1.extBut b o hb (Heap.get?_push_of_some _ e))
end
section
variable {TS : TabList} {X : Cx} {e : Expr} {fe : En → Res D} {pos p1 p2 : Pos}
theorem pgs_star {g : TG} (h : PG X e g) : PGs X [.Starred e p1] (gCons g gNil) := by
  refine ⟨fun pins s σ H vs us Q I r hq => ?_⟩
  obtain ⟨v, vr, e1, hq⟩ := hq
  subst e1
  cases r with
  | cons r rr =>
    have e2 : (assignEach [Expr.Starred e p1] X.env).map (·.2) = [assign e X.env] := rfl
    rw [e2]
    refine assignInOrder_cons (thn (h.run pins s σ H _ _ _ I r hq) fun _ s1 ⟨σ1, H1, I1, q1⟩ => ?_)
    exact pgs_nil.run pins s1 σ1 H1 _ _ Q I1 rr q1
def gStar (K : PySem.W.Frag) (n : Nat) (t : TGs) : TG := fun v σ H Q => ∃ a xs, v = .ref a ∧ SqT K H a xs ∧ n ≤ xs.length ∧ ∀ p, H p = none → t (xs.take n ++ [.ref p]) σ (upd H p (.lst (xs.drop n))) Q
theorem pg_star {es : List Expr} {k n : Nat} {t : TGs} (hc : X.calm = true) (h : PGs X es t) (hn : (assignEach es X.env).length = n + 1 := by rfl) (hst : (assignEach es X.env).findIdx? (·.1) = some n := by rfl) : PG X (.Tuple es k pos) (gStar X.K n t) := by
  refine ⟨fun pins s σ H v u Q I r hq => ?_⟩
  obtain ⟨a, xs, e1, hx, hl, hq⟩ := hq
  subst e1
  cases r
  obtain ⟨its, rv, ht, hz⟩ := I.tuple hx
  have hlen := rv.length
  rw [assign_Tuple]
  refine wpAny_bind (wpAny_standAt ?_)
  unfold unpack
  rw [hn, hst]
  refine wpAny_bind (wpAny_holding (star_items (I.ok.hd hc) ht (by rw [List.size_toArray]; omega) (by rw [List.size_toArray]; omega) fun h' m hx' => ?_))
  have I1 : Inv X pins σ H { s with heap := h', toks := m } := I.kept (t' := m) fun b o hb => hx' b o (Nat.ne_of_lt (Heap.lt_size hb)) hb
  have hf : H h'.objs.size = none := I1.hok.fresh (Nat.le_refl _)
  have I2 : Inv X pins σ (upd H h'.objs.size (.lst (xs.drop n))) { s with heap := h'.push { cls := .type "list", data := .seq (its.toArray.toList.drop n).toArray }, toks := m } :=
    I1.laid (t' := m) (o := .lst (xs.drop n)) (fun b ob z => Heap.get?_push_of_some _ z) (Nat.le_refl _) ⟨by rw [List.length_drop]; omega, its.drop n, 0, rv.drop n, Heap.get?_push_size _ rfl⟩
  have rr : Vals (xs.take n ++ [.ref h'.objs.size]) (its.toArray.toList.take n ++ [.ref h'.objs.size]) := (rv.take n).append (.cons rfl .nil)
  exact h.run pins _ σ _ _ _ Q I2 rr (hq _ hf)
def tgStarF (is : List Nat) (n : Nat) : D → Frm → Res Frm := fun d ρ => match d with
  | .tuple ds => if n ≤ ds.length ∧ is.length = n + 1 then .ok (setsF is (ds.take n ++ [.list (ds.drop n)]) ρ) else .bad
  | _ => .bad
def sSetStar (is : List Nat) (n : Nat) (fe : En → Res D) : Frm → Res Fl := fun ρ => (evP fe ρ).bind fun d => match tgStarF is n d ρ with
  | .ok ρ' => .ok (.next ρ')
  | _ => .bad
theorem ds_setStar {tg : Expr} {is : List Nat} {n : Nat} (he : DE TS X e fe) (hg : PG X tg (gStar X.K n (gMany is))) (hs : swapsWithSole [tg] e pos.line X.env = pure false := by rfl) (hw : swappedStores [tg] e X.env = pure none := by rfl)
    (h1 : (assignEach [tg] X.env).map (·.2) = [assign tg X.env] := by rfl) : DSt TS X (.Assign [tg] e pos) (sSetStar is n fe) := by
  refine ⟨?_⟩
  intro W ρ σ G_0 H_0 G H fp D tk s p
  refine wpSt_of (ps_asg (pe_wp X e) hg hs hw h1) ?_
  refine evP_run he tk s p fun v d G1 H1 g r p => ?_
  cases r with
  | @tup a xs ds hq rs =>
    have p : PostS TS X W G_0 H_0 G D (match (if n ≤ ds.length ∧ is.length = n + 1 then Res.ok (setsF is (ds.take n ++ [.list (ds.drop n)]) ρ) else .bad) with
      | .ok ρ' => .ok (.next ρ')
      | _ => .bad) := p
    split at p
    · rename_i ρ' he'
      split at he'
      · rename_i hl
        cases he'
        have s1 := s.grow g
        refine ⟨a, xs, rfl, ex_t s1.gr.ok.le hq, by rw [rs.len]; exact hl.1, fun q hq' => ?_⟩
        have g2 := Gr.new (o := .lst (xs.drop n)) s1.gr.ok hq'
        have hr : Rps X.K (upd G1 q (.lst (xs.drop n))) (xs.take n ++ [.ref q]) (ds.take n ++ [.list (ds.drop n)]) := ((rs.cut n).mono g2.g).app (.cons (.lst (.inl (.inl upd_same)) ((rs.off n).mono g2.g)) .nil)
        exact gManyF_ok is _ _ ρ σ (by rw [List.length_append, List.length_take, hl.2]; simp only [List.length_cons, List.length_nil]; omega) hr (s1.grow g2) fun σ' s' => p σ' _ _ fp (g.g.trans g2.g) s'
      · cases he'
    · exact p.elim
  | _ => exact p.elim
end
end Pyr

set_option Elab.async false
set_option autoImplicit false
set_option linter.all false
set_option maxRecDepth 100000
set_option maxHeartbeats 4000000
/-! set(xs), xs a list of texts of any number -/
namespace Pyr
open PySem PySem.Spec PyProof.Rows L2 Evl
section
variable {prog : Program} {w : World} {A : Around} {R : Result → Shared → Prop} {I : Addr} {fp wr : List Addr} {G : Array GenState → Array GenState → Prop} {n : Nat} {Pi : Nat → Value → Prop} {St : Nat → Shared → Prop}
theorem upd_loop (W : WalksS prog w A.in1 I fp wr G n Pi St) (S : Addr) (hS : S ∉ fp) (xs : List Str) (hx : xs.length = n) (room : n + 1 < scanBound) (hv : ∀ i v, Pi i v → ∃ t, v = .str (xs.getD i Str.empty) t) :
    ∀ (m i : Nat) (s : Shared), i + m = n → St i s → SetT prog w s.heap S (xs.take i) → (∀ s', Moved (S :: wr) G s s' → SetT prog w s'.heap S xs → R (.ok (.ret .none)) s') → codeAny (model prog w) A (.builtin "set.update.loop" ⟨[.ref S, .ref I], []⟩) R s := by
  have out : S ∉ wr := fun z => hS (W.sub _ z)
  have more : ∀ b ∈ wr, b ∈ S :: wr := fun b z => List.mem_cons_of_mem _ z
  intro m
  induction m with
  | zero =>
    intro i s hi st hT q
    have ei : i = n := by omega
    subst ei
    rw [← hx, List.take_length] at hT
    refine codeAny_builtin PyProof.Rows.F.entry_set_update_loop ?_
    rw [Around.under_plainId PyProof.Rows.F.plain_set_update_loop _]
    show wpAny _ A.in1 (pyNext (.ref I) >>= _) _ _ s
    refine wpAny_bind (W.done s _ _ st fun u hm => ?_)
    show wpAny _ A.in1 (ret Value.none) _ _ u
    exact wpAny_pure (q u (hm.mono more) (setT_at hT fun o ho => hm.heap S _ out ho))
  | succ m ih =>
    intro i s hi st hT q
    have lt : i < n := by omega
    refine codeAny_builtin PyProof.Rows.F.entry_set_update_loop ?_
    rw [Around.under_plainId PyProof.Rows.F.plain_set_update_loop _]
    show wpAny _ A.in1 (pyNext (.ref I) >>= _) _ _ s
    refine wpAny_bind (W.item i s _ _ lt st fun v u hp st2 hm => ?_)
    obtain ⟨t, rfl⟩ := hv i v hp
    obtain ⟨c, hc, hT⟩ := setT_at hT (h' := u.heap) fun o ho => hm.heap S _ out ho
    have hc2 : c ≤ i := by rw [List.length_take] at hc; omega
    show wpAny _ A.in1 (holding [Value.str (xs.getD i Str.empty) t] (setAdd S (.str (xs.getD i Str.empty) t)) >>= _) _ _ u
    refine wpAny_bind (wpAny_holding ?_)
    unfold setAdd
    refine wpAny_holding ?_
    refine wpAny_bind ((PySem.strKind prog w).pyHash (k := xs.getD i Str.empty) (strKind_is _ _ _ _) ?_)
    refine wpAny_setAddHashed_of (knd := PySem.strKind prog w) (s := { u with toks := u.toks + 1 }) (strKind_is _ _ _ _) rfl hT (by omega) fun g same new => ?_
    have nx : SetT prog w g S (xs.take (i + 1)) := by
      have hi2 : i < xs.length := by omega
      have e1 : xs.getD i Str.empty = xs[i] := by simp [List.getD, hi2]
      rw [e1] at new
      refine ⟨_, ?_, SetOf_congr new (fun k => ?_) rfl⟩
      · rw [List.length_take]
        split <;> omega
      · rw [List.take_succ_eq_append_getElem hi2, Bool.eq_iff_iff]
        simp only [List.mem_append, List.mem_singleton, Bool.or_eq_true, decide_eq_true_eq]
    refine wpAny_pure ⟨plainId_quiet PyProof.Rows.F.plain_set_update_loop _, ih (i + 1) _ (by omega) (W.frame _ u _ _ st2 (Nat.le_succ _) fun b hb o e => ?_) nx fun u2 hm2 hT2 => ?_⟩
    · rw [same.2 b fun z : b = S => hS (by rw [← z]; exact hb)]
      exact e
    · refine q u2 (Moved.trans W.gtrans ((hm.mono more).then_heap (Nat.le_succ _) fun b o hb e => ?_) hm2) hT2
      rw [same.2 b fun z : b = S => hb (by rw [z]; exact List.mem_cons_self)]
      exact e
end
section
variable {prog : Program} {w : World} {A : Around} {E : Value → Shared → Prop} {s : Shared}
theorem set_of_texts {l : Addr} {its : Array Value} {xs : List Str} {Q : Value → Shared → Prop} (hh : A.handled = none) (hl : s.heap.IsList l its) (hi : PyProof.Rows.StrsAre its.toList xs) (room : its.size + 1 < scanBound)
    (q : ∀ (g : Heap) (k : Nat), SetT prog w g s.heap.objs.size xs → (∀ b o, b < s.heap.objs.size → s.heap.get? b = some o → g.get? b = some o) → Q (.ref s.heap.objs.size) { s with heap := g, toks := k }) :
    wpAny (model prog w) A (call (.type "set") [.ref l]) Q E s := by
  have hx : xs.length = its.size := by
    rw [← Array.length_toList]
    exact (StrsAre.length hi).symm
  obtain ⟨c, tl, hmro⟩ := PySem.F.called_set.mro
  have made := PySem.F.called_set.made
  have sub := PySem.F.called_set.sub
  refine wpAny_call (codeAny_of_tree ?_)
  show wpAny _ _ (callAny (.type "set") _) _ _ _
  refine wpAny_pure ⟨Code.quiet_builtin _ (by decide +kernel), codeAny_builtin PySem.F.entry_type_call ?_⟩
  rw [Around.under_plain (weight_type_call_type "set" [.ref l] []) rfl]
  have n1 := PySem.F.called_set.notType
  have n2 := PySem.F.called_set.canCreate
  have n3 := PySem.F.typeCall_set_1 (.ref l)
  repeat (any_goals (first | assumption | wp_step))
  refine codeAny_mono (code_set_new_1 (.ref l) (E := E) (Q₁ := fun z u => ∃ led : Bool, z = .ref s.heap.objs.size ∧ u = { s with heap := s.heap.push { cls := .type "set", dict := none, data := .set #[] 0 (.fresh 0 0 led) } }) fun led => ⟨led, rfl, rfl⟩) fun r u hr => ?_
  cases r with
  | error e => exact hr
  | ok fl =>
    cases fl with
    | ret z =>
      obtain ⟨led, rfl, rfl⟩ := hr
      generalize ob : ({ cls := .type "set", dict := none, data := .set #[] 0 (.fresh 0 0 led) } : Obj) = sob
      have here : (s.heap.push sob).get? s.heap.objs.size = some sob := Heap.get?_push_size _ (by rw [← ob]; rfl)
      have ty : Shared.TypeIs { s with heap := s.heap.push sob } (.ref s.heap.objs.size) "set" := ⟨_, here, by rw [← ob]⟩
      have n4 := PySem.F.called_set.init.lookup
      have n5 := PySem.F.called_set.init.bind (.ref s.heap.objs.size)
      repeat (any_goals (first | assumption | wp_step))
      refine codeAny_mono (codeAny_call_builtin (R := wants (fun r u => r = .none ∧ ∃ g k, u = { s with heap := g, toks := k } ∧ SetT prog w g s.heap.objs.size xs ∧ (∀ b o, b < s.heap.objs.size → s.heap.get? b = some o → g.get? b = some o)) E) PySem.F.called_set.init.plain PySem.F.entry_set_init (check_set_init_1 ty ?_)) fun r2 u2 hr2 => ?_
      · have hl1 : (s.heap.push sob).IsList l its := hl.push _
        obtain ⟨ol, hol, hcl, nl, hdl⟩ := id hl1
        have tl : Shared.TypeIs { s with heap := s.heap.push sob } (.ref l) "list" := ⟨ol, hol, hcl⟩
        have lt : l < s.heap.objs.size := by
          obtain ⟨o, ho, _⟩ := hl
          exact Heap.lt_size ho
        have k1 := PySem.F.sub_list_set
        have k2 := PySem.F.sub_list_frozenset
        have k3 : (Value.type "list" == Value.type "dict") = false := by decide
        unfold Builtin.«set.__init__» noKeywords Builtin.Frozenset.updateFrom
        obtain ⟨c1, c2, c3, c4⟩ := ol
        simp only at hcl hdl
        subst hcl hdl ob
        generalize hP : pyIter = walk
        wp_walk
        subst hP
        refine wpAny_pyIter_list hl1 (wpAny_bind (wpAny_runValue ?_))
        have ne : l ≠ (s.heap.push { cls := .type "set", dict := none, data := .set #[] 0 (.fresh 0 0 led) }).objs.size := by
          rw [Heap.size_push]
          exact Nat.ne_of_lt (Nat.lt_succ_of_lt lt)
        have apart : s.heap.objs.size ∉ [(s.heap.push { cls := .type "set", dict := none, data := .set #[] 0 (.fresh 0 0 led) }).objs.size, l] := by
          rw [Heap.size_push]
          simp only [List.mem_cons, List.not_mem_nil, or_false, not_or]
          exact ⟨Nat.ne_of_lt (Nat.lt_succ_self _), Nat.ne_of_gt lt⟩
        have vals : ∀ (i : Nat) (v : Value), its[i]? = some v → ∃ t, v = .str (xs.getD i Str.empty) t := fun i v hv => by
          obtain ⟨y, t, e1, e2⟩ := StrsAre.item hi i v (by rw [Array.getElem?_toList]; exact hv)
          exact ⟨t, by rw [e1, List.getD_eq_getElem?_getD, e2]; rfl⟩
        have calm : A.in1.in1.in1.handled = none := by simp [hh]
        refine upd_loop ((Walks.list calm _ l ne its).toS) s.heap.objs.size apart xs hx room vals its.size 0 _ (by omega) ⟨⟨_, Heap.get?_push_size _ rfl, rfl, rfl⟩, hl1.push _⟩ ?_ fun u hm hT => ?_
        · have at0 : ((s.heap.push { cls := .type "set", dict := none, data := .set #[] 0 (.fresh 0 0 led) }).push { cls := .type "list_iterator", data := .fields #[.ref l, .int 0 0] }).get? s.heap.objs.size = some { cls := .type "set", dict := none, data := .set #[] 0 (.fresh 0 0 led) } := Heap.get?_push_of_some _ here
          exact ⟨0, Nat.zero_le _, SetOf_congr ((PyProof.Rows.setObjOf_fresh (knd := PySem.strKind prog w) led).setOf at0 (by unfold scanBound; omega)) (fun k => by simp) rfl⟩
        · obtain ⟨g, x1, x2, k, x3⟩ := u
          have q1 : x1 = s.gens := hm.gens
          have q2 : x2 = s.drawn := hm.drawn
          have q3 : x3 = s.os := hm.os
          subst q1 q2 q3
          show wpAny _ _ _ _ _ _
          refine wpAny_pure ?_
          show wpAny _ _ (ret Value.none) _ _ _
          refine wpAny_pure ⟨rfl, g, k, rfl, hT, fun b o hb e => ?_⟩
          refine hm.heap b o ?_ (Heap.get?_push_of_some _ (Heap.get?_push_of_some _ e))
          rw [Heap.size_push]
          simp only [List.mem_cons, List.not_mem_nil, or_false, not_or]
          exact ⟨Nat.ne_of_lt hb, Nat.ne_of_lt (Nat.lt_succ_of_lt hb)⟩
      · cases r2 with
        | error e => exact hr2
        | ok f2 =>
          cases f2 with
          | ret r =>
            obtain ⟨rfl, g, k, rfl, h1, h2⟩ := hr2
            repeat (any_goals (first | assumption | wp_step))
            exact q g k h1 h2
          | _ => exact hr2.elim
    | _ => exact hr.elim
end
/-! ### the rules -/
/-- the texts of a list -/
def textsD : D → Res (List D)
  | .list ds => if ds.all (fun d => match d with
      | .str _ => true
      | _ => false) then (if ds.length ≤ 4000 then .ok ds else .bad) else .bad
  | _ => .bad
/-- set(e) in a new name -/
def sSetS (i : Nat) (fe : En → Res D) : Frm → Res Fl := fun ρ => (evP fe ρ).bind fun x => (textsD x).bind fun ds => .ok (.next (ρ.set i (.own (.set ds))))
def setI (i : Nat) : En → Res (List D) := fun ρ => match ρ[i]? with
  | some (some (.dict [(.bool true, .list ds)])) => .ok ds
  | _ => .bad
/-- x in the set of slot i (neg: not in) -/
def eInS (neg : Bool) (i : Nat) (fa : En → Res D) : En → Res Bool := fun ρ => (fa ρ).bind fun x => (setI i ρ).bind fun ds => match x with
  | .str y => .ok (neg != ds.any fun z => PyData.eqv z (.str y))
  | _ => .bad
section
variable {TS : TabList} {X : Cx} {a e : Expr} {fa : En → Res D} {pos : Pos}
theorem texts_of {K : PySem.W.Frag} {G : Hp} : ∀ {vs : List V} {ds : List D}, Rps K G vs ds → (ds.all fun d => match d with
      | .str _ => true
      | _ => false) = true → ∃ xs : List Str, vs = xs.map V.str ∧ ds = xs.map .str
  | _, _, .nil, _ => ⟨[], rfl, rfl⟩
  | _, _, .cons (d := d) r rs, h => by
    rw [List.all_cons, Bool.and_eq_true] at h
    obtain ⟨xs, e1, e2⟩ := texts_of rs h.2
    cases r with
    | str x => exact ⟨x :: xs, by rw [e1]; rfl, by rw [e2]; rfl⟩
    | _ => exact absurd h.1 (by simp)
theorem strsAre_of : ∀ {xs : List Str} {us : List Value}, Vals (xs.map V.str) us → PyProof.Rows.StrsAre us xs
  | [], _, r => by
    cases r
    exact .nil
  | x :: xs, _, r => by
    cases r with
    | cons r rs =>
      obtain ⟨t, rfl⟩ := (show ∃ t, _ = Value.str x t from r)
      exact .cons x t (strsAre_of rs)
theorem cr_set (hA : X.calm = true) {p : Addr} {xs : List Str} {H : Hp} {Q : VK} (hp : SqL X.K H p (xs.map V.str)) (hl : xs.length ≤ 4000) (q : ∀ l, H l = none → Q (.ref l) (upd H l (setO X.prog X.w l (xs.map .str)))) : wpC X (.type "set") [.ref p] H Q := by
  intro pins s σ us I r
  obtain ⟨u, rfl, rx⟩ := vals1 r
  cases rx
  obtain ⟨its, r', pl, hz⟩ := I.list hp
  have hlen := r'.length
  refine set_of_texts (I.ok.hd hA) pl.isList (strsAre_of r') ?_ fun g k hT kp => ?_
  · rw [List.length_map] at hlen
    rw [List.size_toArray, ← hlen]
    exact Nat.lt_of_le_of_lt (Nat.succ_le_succ hl) (by decide)
  · have kp' : ∀ b o, s.heap.get? b = some o → g.get? b = some o := fun b o h => kp b o (Heap.lt_size h) h
    refine ⟨.ref s.heap.objs.size, _, I.laid (t' := k) kp' (Nat.le_refl _) (show ObjOk X.prog X.w _ g _ (setO X.prog X.w s.heap.objs.size (xs.map .str)) from ⟨.txt xs hT, ?_, fun h1 h2 z st => z.at st⟩), rfl, q _ (I.hok.fresh (Nat.le_refl _))⟩
    obtain ⟨n, _, o, es, ep, t, ho, _⟩ := hT
    exact ⟨o, ho⟩
theorem SI.storeS {G_0 H_0 G H : Hp} {ρ : Frm} {σ : L2.St} {fp : Nat → List Addr} {i : Nat} {l : Addr} {ds : List Pyr.D} (s : SI TS X.K G_0 H_0 ρ σ G H fp) (hl : H l = none) : ∃ fp', SI TS X.K G_0 H_0 (ρ.set i (.own (.set ds))) (σ.set i (some (.ref l))) G (upd H l (setO TS.P TS.w l ds)) fp' := by
  refine ⟨_, (s.grow (Gr.own s.gr.ok hl)).setOwn (.set upd_same) (fun a ha => ?_) fun j u hj _ a ha hb => ?_⟩
  · rw [List.mem_singleton.mp ha]
    exact ⟨fresh_back s.gr.ok.le hl, s.gr.h.old l hl⟩
  · rw [List.mem_singleton.mp ha] at hb
    obtain ⟨v2, _, h2⟩ := s.own j u hj
    obtain ⟨w, hw, _⟩ := h2.there l hb
    rw [hl] at hw
    cases hw
theorem ds_setS (i : Nat) {y : Str} {p p' spos : Pos} (hP : TS.P = X.prog) (hw : TS.w = X.w) (ha : DE TS X a fa) (C : CtE X) (hg : Gl X "set") (hm : X.mg "set" = none) (hv : bootBuiltins "set" = some (.type "set"))
    (hi : X.N[i]? = some y := by rfl) (hx : Loc X.env.scope y := by first | exact Or.inl rfl | exact Or.inr rfl) (he : starEach [a] X.env = (false, eval a X.env) :: starEach [] X.env := by rfl) (hpl : (backTo pos (starEach [] X.env)).any (·.1) = false := by rfl)
    (hs : swapsWith (.Call (.Name "set" p) [a] [] pos) (some (.Name y p')) spos.line X.env = pure false := by rfl) (hf : X.fn y = true ∨ X.env.scope.names.lookup y = some .local := by first | exact .inl rfl | exact .inr rfl) :
    DSt TS X (.Assign [.Name y p'] (.Call (.Name "set" p) [a] [] pos) spos) (sSetS i fa) := by
  refine ⟨?_⟩
  intro W ρ σ G_0 H_0 G H fp D tk s post
  refine wpSt_of (ps_set C.nd hi hx (pe_wp X _) hs hf) ?_
  refine wpE_of (pe_callTy (cr_wp _) hg hm hv (pa_cons (pe_wp X a) pa_nil he) (by decide) (by decide) he hpl) ?_
  refine evP_run ha tk s post fun v d G1 H1 g r p2 => ?_
  unfold textsD at p2
  split at p2
  · rename_i ds
    split at p2
    · rename_i hall
      split at p2
      · rename_i hlen
        obtain ⟨q, vs, rfl, hq, rs⟩ := r.list_inv
        obtain ⟨xs, e1, e2⟩ := texts_of rs hall
        subst e1 e2
        rw [List.length_map] at hlen
        refine cr_set C.calm (ex_l g.ok.le hq) hlen fun l hl => ?_
        obtain ⟨fp', s'⟩ := (s.grow g).storeS (i := i) (ds := xs.map .str) hl
        rw [← hP, ← hw]
        exact p2 _ G1 _ fp' g.g s'
      · exact p2.elim
    · exact p2.elim
  · exact p2.elim
theorem any_str {xs : List Str} {y : Str} : ((xs.map PyData.str).any fun z => PyData.eqv z (.str y)) = decide (y ∈ xs) := by
  induction xs with
  | nil => simp
  | cons x xs ih =>
    rw [List.map_cons, List.any_cons, ih]
    by_cases h : x = y
    · subst h
      simp [PyData.eqv]
    · have h2 : ¬ y = x := fun z => h z.symm
      simp [PyData.eqv, h, h2]
theorem we_inS (i : Nat) {neg : Bool} {x : Str} {W : WX} {ρ : En} {σ : L2.St} {G H : Hp} {Q : Bool → Hp → Prop} (hP : TS.P = X.prog) (hw : TS.w = X.w) (ha : DE TS X a fa) (hN : X.N[i]? = some x) (tk : Takes X W) (re : RpE TS X.K G H ρ σ) (ok : Ok0 TS G H) (post : PostG RelT TS X W σ G H (eInS neg i fa ρ) Q) :
    wpE X a σ H fun v H1 => ∃ u, σ[i]? = some (some u) ∧ wpO X (compareOp (if neg then .NotIn else .In)) v u H1 fun z H2 => ∃ k, z = .bl k ∧ Q k H2 := by
  refine bindP (Ra := RelE X.K) (wp := fun R => wpE X a σ H R) back_T (fun Q' h => ha W ρ σ G H Q' tk re ok h) post fun v d G1 H1 _ g1 rx p1 => ?_
  unfold setI at p1
  split at p1
  · rename_i ds hd
    obtain ⟨l, h1, h2⟩ := (re.mono g1).st i ds hd
    refine ⟨_, h1, ?_⟩
    cases rx with
    | str y =>
      have p1 : PostG RelT TS X W σ G1 H1 (.ok (neg != ds.any fun z => PyData.eqv z (.str y))) Q := p1
      intro pins s σ' v u I rv ru
      obtain ⟨t, rfl⟩ := (show ∃ t, v = Value.str y t from rv)
      cases (show u = Value.ref l from ru)
      obtain ⟨hD, _, _⟩ := (show _ ∧ _ ∧ _ from I.hok l _ h2)
      rw [hP, hw] at hD
      cases hD with
      | txt xs hT =>
        obtain ⟨n, _, hS⟩ := hT
        rw [any_str] at p1
        cases neg with
        | true =>
          refine wpAny_notInSet_of (knd := PySem.strKind X.prog X.w) (k := y) (strKind_is _ _ _ _) rfl hS ?_
          refine ⟨.bl (!decide (y ∈ xs)), H1, I.tok _, rfl, _, rfl, ?_⟩
          have := p1 _ G1 H1 (Gr.refl g1.ok) rfl
          simpa using this
        | false =>
          refine wpAny_inSet_of (knd := PySem.strKind X.prog X.w) (k := y) (strKind_is _ _ _ _) rfl hS ?_
          refine ⟨.bl (decide (y ∈ xs)), H1, I.tok _, rfl, _, rfl, ?_⟩
          have := p1 _ G1 H1 (Gr.refl g1.ok) rfl
          simpa using this
    | _ => exact p1.elim
  · exact p1.elim
theorem dt_inS (i : Nat) {x : Str} {p' : Pos} (hP : TS.P = X.prog) (hw : TS.w = X.w) (ha : DE TS X a fa) (hN : X.N[i]? = some x := by rfl) (hv : Vis X.env.scope x := by first | exact Or.inl rfl | exact Or.inr (Or.inl rfl) | exact Or.inr (Or.inr rfl)) (hd : (x == ("__debug__" : Str)) = false := by decide) (hcd : (x == ("__classdict__" : Str)) = false := by decide) :
    DT TS X (.Compare a [.In] [.Name x p'] pos) (eInS false i fa) := by
  refine ⟨?_⟩
  intro W ρ σ G H Q tk re ok post
  exact wpT_of (pt_cmpR (opr_wp _) (pe_wp X a) (pe_var hN hv hd hcd) rfl) (we_inS i (neg := false) hP hw ha hN tk re ok post)
theorem dt_notInS (i : Nat) {x : Str} {p' : Pos} (hP : TS.P = X.prog) (hw : TS.w = X.w) (ha : DE TS X a fa) (hN : X.N[i]? = some x := by rfl) (hv : Vis X.env.scope x := by first | exact Or.inl rfl | exact Or.inr (Or.inl rfl) | exact Or.inr (Or.inr rfl)) (hd : (x == ("__debug__" : Str)) = false := by decide) (hcd : (x == ("__classdict__" : Str)) = false := by decide) :
    DT TS X (.Compare a [.NotIn] [.Name x p'] pos) (eInS true i fa) := by
  refine ⟨?_⟩
  intro W ρ σ G H Q tk re ok post
  exact wpT_of (pt_cmpR (opr_wp _) (pe_wp X a) (pe_var hN hv hd hcd) rfl) (we_inS i (neg := true) hP hw ha hN tk re ok post)
theorem bt_set : bootBuiltins "set" = some (.type "set") := by decide +kernel
/-! ### running -/
theorem setS_ok {i : Nat} {fe : En → Res D} {ρ : Frm} {ds : List D} (h : fe (purE ρ) = .ok (.list ds)) (ht : textsD (.list ds) = .ok ds) : sSetS i fe ρ = .ok (.next (ρ.set i (.own (.set ds)))) := by
  unfold sSetS
  rw [evP_ok h]
  show (textsD (.list ds)).bind _ = _
  rw [ht]
  rfl
theorem texts_ok {xs : List Str} (h : xs.length ≤ 4000) : textsD (.list (xs.map .str)) = .ok (xs.map .str) := by
  have e : ((xs.map PyData.str).all fun d => match d with
      | .str _ => true
      | _ => false) = true := by
    rw [List.all_eq_true]
    intro d hd
    obtain ⟨x, _, rfl⟩ := List.mem_map.mp hd
    rfl
  unfold textsD
  simp only
  rw [if_pos e, List.length_map, if_pos h]
theorem inS_ok {neg : Bool} {i : Nat} {fa : En → Res D} {ρ : En} {y : Str} {xs : List Str} (h : fa ρ = .ok (.str y)) (hi : ρ[i]? = some (some (stD (xs.map .str)))) : eInS neg i fa ρ = .ok (neg != decide (y ∈ xs)) := by
  unfold eInS setI
  rw [h, hi]
  show Res.ok (neg != (xs.map PyData.str).any fun z => PyData.eqv z (.str y)) = _
  rw [any_str]
theorem run_pSt {ds : List D} : purS (.own (.set ds)) = some (stD ds) := rfl
theorem run_fSt {ds : List D} : frzS (.own (.set ds)) = some (stD ds) := rfl
end
end Pyr

set_option Elab.async false
set_option autoImplicit false
set_option linter.all false
set_option maxRecDepth 100000
set_option maxHeartbeats 4000000
namespace K42
open PySem PySem.Spec PyProof.Rows L2 Evl Pyr
def topS (i : Nat) : Stmt := PySem.Challenge.pw_wishshown_k42_fresh_words.main.body.getD i (.Pass ⟨0, 0, 0, 0⟩)
abbrev eL (f : En → Res (List D)) : En → Res D := fun ρ => (f ρ).map .list
section
variable {CL : List Addr} {P : Program} {w : World} {K : PySem.W.Frag} {mg : Str → Option Value} {base : Heap}
abbrev s__law_pool : Stmt := topS 3
abbrev N__law_pool : List Str := ["script", "pool", "state", "k", "step", "cell", "one", "two"]
theorem sc__law_pool : FnScope N__law_pool ["script"] (defScope s__law_pool) := ⟨rfl, rfl, rfl, by decide +kernel, rfl, by decide +kernel, by decide +kernel⟩
theorem bo__law_pool : BindOk "_law_pool" s__law_pool ["script"] := fun _ _ _ _ _ _ us hl => match us, hl with | [_], _ => rfl
def B__law_pool_2 : Frm → Res Fl := (sSeq (sSet 2 (e2 modD (eN (oneD int2D) (aC (e2 addD (e2 mul2D (eVar 2) (eC (.int 48271))) (eC (.int 11))) a0)) (eC (.int 2147483647))))
  (sApp 1 (e2 modD (eN (oneD int2D) (aC (e2 fdivD (eVar 2) (eC (.int 97))) a0)) (eC (.int 60)))))
def B__law_pool_1 : Frm → Res Fl := (sSeq (sApp 1 (e2 modD (eN (oneD int2D) (aC (eVar 5) a0)) (eC (.int 60))))
  (sSet 5 (e2 fdivD (eVar 5) (eC (.int 60)))))
def B__law_pool_0 : Frm → Res Fl := (sSeq (sSet 5 (e2 atD (eVar 0) (eVar 3)))
  (sSeq (sSet 2 (e2 modD (eN (oneD int2D) (aC (e2 addD (e2 addD (e2 mul2D (eVar 2) (eC (.int 69621))) (e2 mul2D (eVar 5) (eC (.int 48271)))) (eVar 3)) a0)) (eC (.int 2147483647))))
  (sIf (tE boolD (e2 geD (eVar 5) (e2 powD (eC (.int 10)) (eC (.int 18))))) (sForR (Tg.nm 4) (iF r1D (eC (.int 60))) B__law_pool_1) (sSeq (sSet 6 (e2 modD (eN (oneD int2D) (aC (e2 addD (e2 addD (e2 mul2D (eVar 5) (eC (.int 48271))) (e2 mul2D (eVar 3) (eC (.int 69621)))) (eC (.int 7))) a0)) (eC (.int 2147483647))))
  (sSeq (sSet 7 (e2 modD (eN (oneD int2D) (aC (e2 addD (e2 addD (e2 mul2D (eVar 6) (eC (.int 16807))) (e2 mul2D (eVar 5) (eC (.int 31)))) (eVar 3)) a0)) (eC (.int 1000003))))
  (sSetL 1 (lAdd (eVar 1) (eL (lN (aC (e2 modD (eN (oneD int2D) (aC (e2 fdivD (eVar 6) (eC (.int 11))) a0)) (eC (.int 60))) (aC (e2 modD (eN (oneD int2D) (aC (eVar 7) a0)) (eC (.int 60))) a0)))))))))))
def T__law_pool_4 : Frm → Res Fl := (sRetO 1)
def T__law_pool_3 : Frm → Res Fl := (sSeq (sForR (Tg.nm 4) (iF r1D (eC (.int 300))) B__law_pool_2)
  T__law_pool_4)
def T__law_pool_2 : Frm → Res Fl := (sSeq (sForR (Tg.nm 3) (iF r1D (eN minD (aC (eN (oneD lenD) (aC (eVar 0) a0)) (aC (eC (.int 63)) a0)))) B__law_pool_0)
  T__law_pool_3)
def T__law_pool_1 : Frm → Res Fl := (sSeq (sSet 2 (eC (.int 17)))
  T__law_pool_2)
def F__law_pool : Frm → Res Fl := (sSeq (sSetL 1 (lN a0))
  T__law_pool_1)
def m__law_pool : List D → Res RV := defM 1 8 F__law_pool
theorem kn__law_pool (z_int : mg "int" = none) (z_len : mg "len" = none) (z_min : mg "min" = none) (z_range : mg "range" = none) (d : Dfn K mg "_law_pool" s__law_pool ["script"]) : Known (TabList.mk CL P w) P w K mg base 1 "_law_pool" ["script"] m__law_pool := known_of d sc__law_pool fun f cdv A outer s H E hr => by
  have C : CtE (cxOf (L2.CX P w) P w K mg base N__law_pool "_law_pool" (defScope s__law_pool) f cdv A outer s H E) := ⟨rfl, sc__law_pool.nd, room_ct hr⟩
  exact (dss_cons (ds_setL 1 (dl_lst da_nil) C)
  (dss_cons (ds_set 2 de_int C)
  (dss_cons (ds_forR C (passes_of rfl) (fw_range1 (by rfl) z_range (de_callB (cd_min C) (by rfl) z_min bt_min (da_cons (de_callB cd_len (by rfl) z_len bt_len (da_cons (de_var 0) da_nil)) (da_cons de_int da_nil)))) (pg_name (i := 3) C.nd rfl (by first | exact Or.inl rfl | exact Or.inr rfl)) (dss_cons (ds_set 5 (de_ix (de_var 0) (de_var 3)) C)
  (dss_cons (ds_set 2 (de_bin od_mod (de_callTy cd_int2 (by rfl) z_int bt_int (da_cons (de_bin od_add (de_bin od_add (de_bin od_mul2 (de_var 2) de_int) (de_bin od_mul2 (de_var 5) de_int)) (de_var 3)) da_nil)) de_int) C)
  (dss_one (ds_if (dt_cmp od_ge (de_var 5) (de_bin od_pow de_int de_int)) (dss_one (ds_forR C (passes_of rfl) (fw_range1 (by rfl) z_range de_int) (pg_name (i := 4) C.nd rfl (by first | exact Or.inl rfl | exact Or.inr rfl)) (dss_cons (ds_app 1 (de_bin od_mod (de_callTy cd_int2 (by rfl) z_int bt_int (da_cons (de_var 5) da_nil)) de_int))
  (dss_one (ds_set 5 (de_bin od_fdiv (de_var 5) de_int) C))))) (dss_cons (ds_set 6 (de_bin od_mod (de_callTy cd_int2 (by rfl) z_int bt_int (da_cons (de_bin od_add (de_bin od_add (de_bin od_mul2 (de_var 5) de_int) (de_bin od_mul2 (de_var 3) de_int)) de_int) da_nil)) de_int) C)
  (dss_cons (ds_set 7 (de_bin od_mod (de_callTy cd_int2 (by rfl) z_int bt_int (da_cons (de_bin od_add (de_bin od_add (de_bin od_mul2 (de_var 6) de_int) (de_bin od_mul2 (de_var 5) de_int)) (de_var 3)) da_nil)) de_int) C)
  (dss_one (ds_setL 1 (dl_add (de_var 1) (dl_lst (da_cons (de_bin od_mod (de_callTy cd_int2 (by rfl) z_int bt_int (da_cons (de_bin od_fdiv (de_var 6) de_int) da_nil)) de_int) (da_cons (de_bin od_mod (de_callTy cd_int2 (by rfl) z_int bt_int (da_cons (de_var 7) da_nil)) de_int) da_nil))).de) C)))))))))
  (dss_cons (ds_forR C (passes_of rfl) (fw_range1 (by rfl) z_range de_int) (pg_name (i := 4) C.nd rfl (by first | exact Or.inl rfl | exact Or.inr rfl)) (dss_cons (ds_set 2 (de_bin od_mod (de_callTy cd_int2 (by rfl) z_int bt_int (da_cons (de_bin od_add (de_bin od_mul2 (de_var 2) de_int) de_int) da_nil)) de_int) C)
  (dss_one (ds_app 1 (de_bin od_mod (de_callTy cd_int2 (by rfl) z_int bt_int (da_cons (de_bin od_fdiv (de_var 2) de_int) da_nil)) de_int)))))
  (dss_one (ds_retO 1))))))
abbrev s_fresh_words : Stmt := topS 1
abbrev N_fresh_words : List Str := ["used", "count", "barred", "found", "number", "word"]
theorem sc_fresh_words : FnScope N_fresh_words ["used", "count"] (defScope s_fresh_words) := ⟨rfl, rfl, rfl, by decide +kernel, rfl, by decide +kernel, by decide +kernel⟩
theorem bo_fresh_words : BindOk "fresh_words" s_fresh_words ["used", "count"] := fun _ _ _ _ _ _ us hl => match us, hl with | [_, _], _ => rfl
def B_fresh_words_0 : Frm → Res Fl := (sSeq (sSet 5 (eFs (jC (eC (.str "a")) (jC (e1 fmtD (eVar 4)) j0))))
  (sSeq (sIf (eInS true 2 (eVar 5)) (sApp 3 (eVar 5)) sNext)
  (sAug 4 (eC (.int 1)))))
def T_fresh_words_4 : Frm → Res Fl := (sRetO 3)
def T_fresh_words_3 : Frm → Res Fl := (sSeq (whileF (tE boolD (e2 ltD (eN (oneD lenD) (aC (eVar 3) a0)) (eVar 1))) B_fresh_words_0 1000)
  T_fresh_words_4)
def T_fresh_words_2 : Frm → Res Fl := (sSeq (sSet 4 (eC (.int 0)))
  T_fresh_words_3)
def T_fresh_words_1 : Frm → Res Fl := (sSeq (sSetL 3 (lN a0))
  T_fresh_words_2)
def F_fresh_words : Frm → Res Fl := (sSeq (sSetS 2 (eVar 0))
  T_fresh_words_1)
def m_fresh_words : List D → Res RV := defM 2 6 F_fresh_words
theorem kn_fresh_words (z_len : mg "len" = none) (z_set : mg "set" = none) (d : Dfn K mg "fresh_words" s_fresh_words ["used", "count"]) : Known (TabList.mk CL P w) P w K mg base 1 "fresh_words" ["used", "count"] m_fresh_words := known_of d sc_fresh_words fun f cdv A outer s H E hr => by
  have C : CtE (cxOf (L2.CX P w) P w K mg base N_fresh_words "fresh_words" (defScope s_fresh_words) f cdv A outer s H E) := ⟨rfl, sc_fresh_words.nd, room_ct hr⟩
  exact (dss_cons (ds_setS 2 rfl rfl (de_var 0) C (by rfl) z_set bt_set)
  (dss_cons (ds_setL 3 (dl_lst da_nil) C)
  (dss_cons (ds_set 4 de_int C)
  (dss_cons (ds_while 1000 (passes_of rfl) (dt_cmp od_lt (de_callB cd_len (by rfl) z_len bt_len (da_cons (de_var 3) da_nil)) (de_var 1)) (dss_cons (ds_set 5 (de_fstr (dj_cons de_str (dj_cons (de_fmt (de_var 4)) dj_nil))) C)
  (dss_cons (ds_if (dt_notInS 2 rfl rfl (de_var 5)) (dss_one (ds_app 3 (de_var 5))) dss_nil)
  (dss_one (ds_aug 4 de_int C)))))
  (dss_one (ds_retO 3))))))
abbrev s__law_word : Stmt := topS 4
abbrev N__law_word : List Str := ["pool", "at", "letters", "one", "two"]
theorem sc__law_word : FnScope N__law_word ["pool", "at"] (defScope s__law_word) := ⟨rfl, rfl, rfl, by decide +kernel, rfl, by decide +kernel, by decide +kernel⟩
theorem bo__law_word : BindOk "_law_word" s__law_word ["pool", "at"] := fun _ _ _ _ _ _ us hl => match us, hl with | [_, _], _ => rfl
def T__law_word_6 : Frm → Res Fl := (sRet (eVar 3))
def T__law_word_5 : Frm → Res Fl := (sSeq (sIf (tE boolD (e2 eqD (e2 modD (eN (oneD int2D) (aC (e2 atD (eVar 0) (eVar 1)) a0)) (eC (.int 6))) (eC (.int 2)))) (sRet (e2 addD (eVar 3) (eVar 4))) sNext)
  T__law_word_6)
def T__law_word_4 : Frm → Res Fl := (sSeq (sIf (tE boolD (e2 eqD (e2 modD (eN (oneD int2D) (aC (e2 atD (eVar 0) (eVar 1)) a0)) (eC (.int 6))) (eC (.int 1)))) (sRet (e2 addD (e2 mul2D (eVar 3) (eC (.int 11))) (eVar 4))) sNext)
  T__law_word_5)
def T__law_word_3 : Frm → Res Fl := (sSeq (sIf (tE boolD (e2 eqD (e2 modD (eN (oneD int2D) (aC (e2 atD (eVar 0) (eVar 1)) a0)) (eC (.int 6))) (eC (.int 0)))) (sRet (e2 addD (eC (.str "a")) (eN (oneD strD) (aC (e2 modD (eN (oneD int2D) (aC (e2 atD (eVar 0) (e2 addD (eVar 1) (eC (.int 1)))) a0)) (eC (.int 12))) a0)))) sNext)
  T__law_word_4)
def T__law_word_2 : Frm → Res Fl := (sSeq (sSet 4 (e2 atD (eVar 2) (e2 modD (eN (oneD int2D) (aC (e2 atD (eVar 0) (e2 addD (eVar 1) (eC (.int 2)))) a0)) (eC (.int 36)))))
  T__law_word_3)
def T__law_word_1 : Frm → Res Fl := (sSeq (sSet 3 (e2 atD (eVar 2) (e2 modD (eN (oneD int2D) (aC (e2 atD (eVar 0) (e2 addD (eVar 1) (eC (.int 1)))) a0)) (eC (.int 36)))))
  T__law_word_2)
def F__law_word : Frm → Res Fl := (sSeq (sSet 2 (eC (.str "abcdefghijklmnopqrstuvwxyz0123456789")))
  T__law_word_1)
def m__law_word : List D → Res RV := defM 2 5 F__law_word
theorem kn__law_word (z_int : mg "int" = none) (z_str : mg "str" = none) (d : Dfn K mg "_law_word" s__law_word ["pool", "at"]) : Known (TabList.mk CL P w) P w K mg base 1 "_law_word" ["pool", "at"] m__law_word := known_of d sc__law_word fun f cdv A outer s H E hr => by
  have C : CtE (cxOf (L2.CX P w) P w K mg base N__law_word "_law_word" (defScope s__law_word) f cdv A outer s H E) := ⟨rfl, sc__law_word.nd, room_ct hr⟩
  exact (dss_cons (ds_set 2 de_str C)
  (dss_cons (ds_set 3 (de_ix (de_var 2) (de_bin od_mod (de_callTy cd_int2 (by rfl) z_int bt_int (da_cons (de_ix (de_var 0) (de_bin od_add (de_var 1) de_int)) da_nil)) de_int)) C)
  (dss_cons (ds_set 4 (de_ix (de_var 2) (de_bin od_mod (de_callTy cd_int2 (by rfl) z_int bt_int (da_cons (de_ix (de_var 0) (de_bin od_add (de_var 1) de_int)) da_nil)) de_int)) C)
  (dss_cons (ds_if (dt_cmp (od_eq C) (de_bin od_mod (de_callTy cd_int2 (by rfl) z_int bt_int (da_cons (de_ix (de_var 0) (de_var 1)) da_nil)) de_int) de_int) (dss_one (ds_ret (de_bin od_add de_str (de_callTy cd_str (by rfl) z_str bt_str (da_cons (de_bin od_mod (de_callTy cd_int2 (by rfl) z_int bt_int (da_cons (de_ix (de_var 0) (de_bin od_add (de_var 1) de_int)) da_nil)) de_int) da_nil))))) dss_nil)
  (dss_cons (ds_if (dt_cmp (od_eq C) (de_bin od_mod (de_callTy cd_int2 (by rfl) z_int bt_int (da_cons (de_ix (de_var 0) (de_var 1)) da_nil)) de_int) de_int) (dss_one (ds_ret (de_bin od_add (de_bin od_mul2 (de_var 3) de_int) (de_var 4)))) dss_nil)
  (dss_cons (ds_if (dt_cmp (od_eq C) (de_bin od_mod (de_callTy cd_int2 (by rfl) z_int bt_int (da_cons (de_ix (de_var 0) (de_var 1)) da_nil)) de_int) de_int) (dss_one (ds_ret (de_bin od_add (de_var 3) (de_var 4)))) dss_nil)
  (dss_one (ds_ret (de_var 3)))))))))
abbrev s_law : Stmt := topS 5
abbrev N_law : List Str := ["script", "pool", "used", "k", "count", "actual", "number", "kept", "word", "step"]
theorem sc_law : FnScope N_law ["script"] (defScope s_law) := ⟨rfl, rfl, rfl, by decide +kernel, rfl, by decide +kernel, by decide +kernel⟩
theorem bo_law : BindOk "law" s_law ["script"] := fun _ _ _ _ _ _ us hl => match us, hl with | [_], _ => rfl
def B_law_2 : Frm → Res Fl := (sIf (tE boolD (e2 inD (e2 addD (eC (.str "a")) (eN (oneD strD) (aC (eVar 6) a0))) (eVar 2))) (sSet 6 (e2 addD (eVar 6) (eC (.int 1)))) sNext)
def B_law_1 : Frm → Res Fl := (sSeq (sForR (Tg.nm 9) (iF r1D (eN (oneD lenD) (aC (eVar 2) a0))) B_law_2)
  (sSeq (sIf (tOrR (tNotR (tE truD (e1 (isiD "str") (e2 atD (eVar 5) (eVar 3))))) (tE boolD (e2 neD (e2 atD (eVar 5) (eVar 3)) (e2 addD (eC (.str "a")) (eN (oneD strD) (aC (eVar 6) a0)))))) (sRet (eC (.bool false))) sNext)
  (sSet 6 (e2 addD (eVar 6) (eC (.int 1))))))
def B_law_0 : Frm → Res Fl := (sSeq (sSet 8 (eCall m__law_word (aC (eVar 1) (aC (e2 addD (eC (.int 3)) (e2 mul2D (eC (.int 3)) (eVar 3))) a0))))
  (sSeq (sIf (tE boolD (e2 eqD (e2 modD (eN (oneD int2D) (aC (e2 atD (eVar 1) (e2 addD (eC (.int 40)) (eVar 3))) a0)) (eC (.int 2))) (eC (.int 0)))) (sSet 8 (e2 addD (eC (.str "a")) (eN (oneD strD) (aC (e2 modD (eN (oneD int2D) (aC (e2 atD (eVar 1) (e2 addD (eC (.int 41)) (eVar 3))) a0)) (eC (.int 12))) a0)))) sNext)
  (sIf (tE boolD (e2 notInD (eVar 8) (eVar 2))) (sApp 2 (eVar 8)) sNext)))
def T_law_10 : Frm → Res Fl := (sRet (eAnd (e2 eqD (eCall m_fresh_words (aC (eVar 2) (aC (eVar 4) a0))) (eVar 5)) (e2 eqD (eVar 2) (eVar 7))))
def T_law_9 : Frm → Res Fl := (sFrz 2 (sSeq (sSet 7 (eL (lF (oneL itemsD) (aC (eVar 2) a0))))
  T_law_10))
def T_law_8 : Frm → Res Fl := (sSeq (sForR (Tg.nm 3) (iF r1D (eVar 4)) B_law_1)
  T_law_9)
def T_law_7 : Frm → Res Fl := (sSeq (sSet 6 (eC (.int 0)))
  T_law_8)
def T_law_6 : Frm → Res Fl := (sSeq (sIf (tOrR (tNotR (tE truD (e1 (isiD "list") (eVar 5)))) (tE boolD (e2 neD (eN (oneD lenD) (aC (eVar 5) a0)) (eVar 4)))) (sRet (eC (.bool false))) sNext)
  T_law_7)
def T_law_5 : Frm → Res Fl := (sFrz 2 (sSeq (sSet 5 (eCall m_fresh_words (aC (eL (lF (oneL itemsD) (aC (eVar 2) a0))) (aC (eVar 4) a0))))
  T_law_6))
def T_law_4 : Frm → Res Fl := (sFrz 2 (sSeq (sSetL 2 (lF (oneL sortL) (aC (eVar 2) a0)))
  T_law_5))
def T_law_3 : Frm → Res Fl := (sSeq (sSet 4 (e2 modD (eN (oneD int2D) (aC (e2 atD (eVar 1) (eC (.int 1))) a0)) (eC (.int 15))))
  T_law_4)
def T_law_2 : Frm → Res Fl := (sSeq (sForR (Tg.nm 3) (iF r1D (e2 modD (eN (oneD int2D) (aC (e2 atD (eVar 1) (eC (.int 0))) a0)) (eC (.int 9)))) B_law_0)
  T_law_3)
def T_law_1 : Frm → Res Fl := (sSeq (sSetL 2 (lN a0))
  T_law_2)
def F_law : Frm → Res Fl := (sSeq (sSet 1 (eCall m__law_pool (aC (eVar 0) a0)))
  T_law_1)
def m_law : List D → Res RV := defM 1 10 F_law
theorem fk_law (z_int : mg "int" = none) (z_isinstance : mg "isinstance" = none) (z_len : mg "len" = none) (z_list : mg "list" = none) (z_range : mg "range" = none) (z_sorted : mg "sorted" = none) (z_str : mg "str" = none) (kn__law_pool : Known (TabList.mk CL P w) P w K mg base 1 "_law_pool" ["script"] m__law_pool) (kn__law_word : Known (TabList.mk CL P w) P w K mg base 1 "_law_word" ["pool", "at"] m__law_word) (kn_fresh_words : Known (TabList.mk CL P w) P w K mg base 1 "fresh_words" ["used", "count"] m_fresh_words) (f : Addr) (fd : FuncData) (Fn : L2.Fun K "law" "law" s_law f fd) : FnOk P w K mg base (L2.CX P w) 2 f fd ["script"] (spD (TabList.mk CL P w) K mg m_law) := fnok_mk Fn sc_law fun cdv A outer s H E hr => by
  have C : CtE (cxOf (L2.CX P w) P w K mg base N_law "law" (defScope s_law) f cdv A outer s H E) := ⟨rfl, sc_law.nd, room_ct hr⟩
  exact (dss_cons (ds_set 1 (de_call kn__law_pool hr (by decide) (by rfl) (da_cons (de_var 0) da_nil)) C)
  (dss_cons (ds_setL 2 (dl_lst da_nil) C)
  (dss_cons (ds_forR C (passes_of rfl) (fw_range1 (by rfl) z_range (de_bin od_mod (de_callTy cd_int2 (by rfl) z_int bt_int (da_cons (de_ix (de_var 1) de_int) da_nil)) de_int)) (pg_name (i := 3) C.nd rfl (by first | exact Or.inl rfl | exact Or.inr rfl)) (dss_cons (ds_set 8 (de_call kn__law_word hr (by decide) (by rfl) (da_cons (de_var 1) (da_cons (de_bin od_add de_int (de_bin od_mul2 de_int (de_var 3))) da_nil))) C)
  (dss_cons (ds_if (dt_cmp (od_eq C) (de_bin od_mod (de_callTy cd_int2 (by rfl) z_int bt_int (da_cons (de_ix (de_var 1) (de_bin od_add de_int (de_var 3))) da_nil)) de_int) de_int) (dss_one (ds_set 8 (de_bin od_add de_str (de_callTy cd_str (by rfl) z_str bt_str (da_cons (de_bin od_mod (de_callTy cd_int2 (by rfl) z_int bt_int (da_cons (de_ix (de_var 1) (de_bin od_add de_int (de_var 3))) da_nil)) de_int) da_nil))) C)) dss_nil)
  (dss_one (ds_if (dt_cmp (od_notIn C) (de_var 8) (de_var 2)) (dss_one (ds_app 2 (de_var 8))) dss_nil)))))
  (dss_cons (ds_set 4 (de_bin od_mod (de_callTy cd_int2 (by rfl) z_int bt_int (da_cons (de_ix (de_var 1) de_int) da_nil)) de_int) C)
  (dss_frz (i := 2) (dss_cons (ds_setL 2 (dl_callB (cl_sorted C) (by rfl) z_sorted bt_sorted (da_cons (de_var 2) da_nil)) C)
  (dss_frz (i := 2) (dss_cons (ds_set 5 (de_call kn_fresh_words hr (by decide) (by rfl) (da_cons (dl_callTy cl_list (by rfl) z_list bt_list (da_cons (de_var 2) da_nil)).de (da_cons (de_var 4) da_nil))) C)
  (dss_cons (ds_if (dw_or (dt_not (dt_tru (de_isi kit_list (by rfl) z_isinstance (by rfl) z_list bt_list (de_var 5)))) (dw_or1 (dt_cmp (od_ne C) (de_callB cd_len (by rfl) z_len bt_len (da_cons (de_var 5) da_nil)) (de_var 4)))).dt (dss_one (ds_ret de_bl)) dss_nil)
  (dss_cons (ds_set 6 de_int C)
  (dss_cons (ds_forR C (passes_of rfl) (fw_range1 (by rfl) z_range (de_var 4)) (pg_name (i := 3) C.nd rfl (by first | exact Or.inl rfl | exact Or.inr rfl)) (dss_cons (ds_forR C (passes_of rfl) (fw_range1 (by rfl) z_range (de_callB cd_len (by rfl) z_len bt_len (da_cons (de_var 2) da_nil))) (pg_name (i := 9) C.nd rfl (by first | exact Or.inl rfl | exact Or.inr rfl)) (dss_one (ds_if (dt_cmp (od_in C) (de_bin od_add de_str (de_callTy cd_str (by rfl) z_str bt_str (da_cons (de_var 6) da_nil))) (de_var 2)) (dss_one (ds_set 6 (de_bin od_add (de_var 6) de_int) C)) dss_nil)))
  (dss_cons (ds_if (dw_or (dt_not (dt_tru (de_isi kit_str (by rfl) z_isinstance (by rfl) z_str bt_str (de_ix (de_var 5) (de_var 3))))) (dw_or1 (dt_cmp (od_ne C) (de_ix (de_var 5) (de_var 3)) (de_bin od_add de_str (de_callTy cd_str (by rfl) z_str bt_str (da_cons (de_var 6) da_nil)))))).dt (dss_one (ds_ret de_bl)) dss_nil)
  (dss_one (ds_set 6 (de_bin od_add (de_var 6) de_int) C)))))
  (dss_frz (i := 2) (dss_cons (ds_set 7 (dl_callTy cl_list (by rfl) z_list bt_list (da_cons (de_var 2) da_nil)).de C)
  (dss_one (ds_ret (de_and (de_cmp (od_eq C) (de_call kn_fresh_words hr (by decide) (by rfl) (da_cons (de_var 2) (da_cons (de_var 4) da_nil))) (de_var 5)) (de_one (de_cmp (od_eq C) (de_var 2) (de_var 7)))))))))))))))))))
end
theorem pow18 : powD (.int 10) (.int 18) = .ok (.int 1000000000000000000) := rfl
def Good (vs : List Int) : Prop := ∀ v ∈ vs, (0 : Int) ≤ v ∧ v < 60
theorem good_add {vs : List Int} (h : Good vs) (n : Int) : Good (vs ++ [n.fmod 60]) := fun v hv => by
  rcases List.mem_append.mp hv with hv | hv
  · exact h v hv
  · rw [List.mem_singleton.mp hv]
    exact fmod_in n (by decide)
theorem map_add (vs : List Int) (n : Int) : (vs ++ [n]).map PyData.int = vs.map .int ++ [.int n] := by rw [List.map_append]; rfl
theorem ints_flat : ∀ vs : List Int, (vs.map PyData.int).all flat0 = true
  | [] => rfl
  | _ :: vs => ints_flat vs
theorem pool_in (s a k one two : Sl) : ∀ (m : Nat) (lo : Int) (vs : List Int) (c : Int) (st : Sl), Good vs → vs.length + m ≤ 10000 → ∃ us c' st', Good us ∧ us.length = vs.length + m ∧
    forF (Tg.nm 4) B__law_pool_1 (upto lo m) [s, .own (.lst (vs.map .int)), a, k, st, .val (.int c), one, two] = .ok (.next [s, .own (.lst (us.map .int)), a, k, st', .val (.int c'), one, two])
  | 0, lo, vs, c, st, h, _ => ⟨vs, c, st, h, rfl, rfl⟩
  | m + 1, lo, vs, c, st, h, hl => by
    obtain ⟨us, c', st', h1, h2, h3⟩ := pool_in s a k one two m (lo + 1) (vs ++ [c.fmod 60]) (c.fdiv 60) (.val (.int lo)) (good_add h c) (by rw [List.length_append]; simp only [List.length_cons, List.length_nil]; omega)
    refine ⟨us, c', st', h1, by rw [h2, List.length_append]; simp only [List.length_cons, List.length_nil]; omega, ?_⟩
    rw [← h3]
    refine forF_next (ρ1 := [s, .own (.lst (vs.map .int)), a, k, .val (.int lo), .val (.int c), one, two]) rfl ?_
    unfold B__law_pool_1
    simp -implicitDefEqProofs (disch := omega) only [Pyr.sSeq, Pyr.sIf, Pyr.sSet, Pyr.sSetL, Pyr.sRet, Pyr.sRetL, Pyr.sRetN, Pyr.sRetO, Pyr.sDrop, Pyr.sApp, Pyr.sNext, Pyr.sFrz, Pyr.sSetT, Pyr.tgF, Pyr.setsF, Pyr.evP, Pyr.evL, Pyr.evT, Pyr.bare, Pyr.eC, Pyr.e1, Pyr.e2, Pyr.eN, Pyr.aC, Pyr.a0, Pyr.eIf, Pyr.eAnd, Pyr.eOr, Pyr.eNot, Pyr.eChain, Pyr.tE, Pyr.tNotR, Pyr.tAndR, Pyr.tOrR, Pyr.eCall, Pyr.lCall, Pyr.iF, Pyr.iF2, Pyr.lN, Pyr.lF, Pyr.eFs, Pyr.jC, Pyr.j0, Pyr.eIxV, Pyr.ownI, Pyr.lAdd, Pyr.sExt, Pyr.sPop, Pyr.trF, Pyr.trsF, Trs.len, Pyr.run_max2, Pyr.run_min2, Pyr.backD, Pyr.eSlice, Pyr.oNone, Pyr.oSome, Pyr.optI, Pyr.lSlice, Pyr.listD, eL, Pyr.eB, Pyr.oneD, Pyr.oneL, Pyr.itemsD, Pyr.outR, Pyr.ownD, Pyr.RV.d, Pyr.tupD, Pyr.run_mul, Pyr.run_mulS, Pyr.run_add, Pyr.run_sub, Pyr.run_addS, Pyr.run_mod, Pyr.run_fdiv, Pyr.run_lt, Pyr.run_le, Pyr.run_gt, Pyr.run_ge, Pyr.run_lenL, Pyr.run_lenT, Pyr.run_lenS, Pyr.run_int, Pyr.run_bool, Pyr.run_truB, Pyr.run_truL, Pyr.run_pur1, Pyr.run_frz1, Pyr.run_pSv, Pyr.run_pSo, Pyr.run_pSe, Pyr.run_fSv, Pyr.run_fSo, Pyr.run_fSe, Pyr.run_pur0, Pyr.run_frz0, Pyr.run_v0n, Pyr.run_v0b, Pyr.run_v0i, Pyr.run_v0s, Pyr.run_v0l, Pyr.run_v0t, Pyr.run_v0o, Pyr.run_vN, Pyr.run_vS, Pyr.run_bad, Pyr.run_exc, Pyr.run_map, Pyr.run_okL, List.length_cons, List.length_nil, Pyr.bind_ok, List.set_cons_zero, List.set_cons_succ, List.getElem?_cons_zero, List.getElem?_cons_succ, Pyr.eqD_int, Pyr.eqD_str, Pyr.neD_int, Pyr.neD_str, if_true, if_false, Bool.not_true, Bool.not_false, Bool.false_eq_true, decide_true, decide_false, Pyr.run_atT0, Pyr.run_atT1, Pyr.run_atT2, Pyr.run_atT3, Pyr.run_atT4, Pyr.run_atL0, Pyr.run_atL1, Pyr.run_atL2, Pyr.run_atL3, Pyr.run_atL4, Pyr.isi_str_n, Pyr.isi_str_b, Pyr.isi_str_i, Pyr.isi_str_s, Pyr.isi_str_l, Pyr.isi_str_t, Pyr.isi_str_d, Pyr.isi_int_n, Pyr.isi_int_b, Pyr.isi_int_i, Pyr.isi_int_s, Pyr.isi_int_l, Pyr.isi_int_t, Pyr.isi_int_d, Pyr.isi_bool_n, Pyr.isi_bool_b, Pyr.isi_bool_i, Pyr.isi_bool_s, Pyr.isi_bool_l, Pyr.isi_bool_t, Pyr.isi_bool_d, Pyr.isi_list_n, Pyr.isi_list_b, Pyr.isi_list_i, Pyr.isi_list_s, Pyr.isi_list_l, Pyr.isi_list_t, Pyr.isi_list_d, Pyr.isi_tuple_n, Pyr.isi_tuple_b, Pyr.isi_tuple_i, Pyr.isi_tuple_s, Pyr.isi_tuple_l, Pyr.isi_tuple_t, Pyr.isi_tuple_d, Pyr.isi_dict_n, Pyr.isi_dict_b, Pyr.isi_dict_i, Pyr.isi_dict_s, Pyr.isi_dict_l, Pyr.isi_dict_t, Pyr.isi_dict_d, Nat.reduceAdd, Int.cast_ofNat_Int, Int.natCast_zero, Int.natCast_one, Int.reduceEq, Int.reduceLT, Int.reduceLE, Int.reduceAdd, Int.reduceSub, Int.reduceMul, Int.reduceNeg, Int.reduceNe, Nat.zero_add, reduceIte, decide_eq_true_eq, beq_self_eq_true, eq_self, Bool.true_or, Bool.or_true, Bool.and_true, Bool.true_and, Bool.false_or, Bool.or_false, Bool.and_false, Bool.false_and, List.length_map, map_add]
theorem pool_out (s : Sl) (k cell one two : Sl) : ∀ (m : Nat) (lo : Int) (vs : List Int) (c : Int) (st : Sl), Good vs → vs.length + m ≤ 10000 → ∃ us c' st', Good us ∧ us.length = vs.length + m ∧
    forF (Tg.nm 4) B__law_pool_2 (upto lo m) [s, .own (.lst (vs.map .int)), .val (.int c), k, st, cell, one, two] = .ok (.next [s, .own (.lst (us.map .int)), .val (.int c'), k, st', cell, one, two])
  | 0, lo, vs, c, st, h, _ => ⟨vs, c, st, h, rfl, rfl⟩
  | m + 1, lo, vs, c, st, h, hl => by
    obtain ⟨us, c', st', h1, h2, h3⟩ := pool_out s k cell one two m (lo + 1) (vs ++ [(((c * 48271 + 11).fmod 2147483647).fdiv 97).fmod 60]) ((c * 48271 + 11).fmod 2147483647) (.val (.int lo)) (good_add h _) (by rw [List.length_append]; simp only [List.length_cons, List.length_nil]; omega)
    refine ⟨us, c', st', h1, by rw [h2, List.length_append]; simp only [List.length_cons, List.length_nil]; omega, ?_⟩
    rw [← h3]
    refine forF_next (ρ1 := [s, .own (.lst (vs.map .int)), .val (.int c), k, .val (.int lo), cell, one, two]) rfl ?_
    unfold B__law_pool_2
    simp -implicitDefEqProofs (disch := omega) only [Pyr.sSeq, Pyr.sIf, Pyr.sSet, Pyr.sSetL, Pyr.sRet, Pyr.sRetL, Pyr.sRetN, Pyr.sRetO, Pyr.sDrop, Pyr.sApp, Pyr.sNext, Pyr.sFrz, Pyr.sSetT, Pyr.tgF, Pyr.setsF, Pyr.evP, Pyr.evL, Pyr.evT, Pyr.bare, Pyr.eC, Pyr.e1, Pyr.e2, Pyr.eN, Pyr.aC, Pyr.a0, Pyr.eIf, Pyr.eAnd, Pyr.eOr, Pyr.eNot, Pyr.eChain, Pyr.tE, Pyr.tNotR, Pyr.tAndR, Pyr.tOrR, Pyr.eCall, Pyr.lCall, Pyr.iF, Pyr.iF2, Pyr.lN, Pyr.lF, Pyr.eFs, Pyr.jC, Pyr.j0, Pyr.eIxV, Pyr.ownI, Pyr.lAdd, Pyr.sExt, Pyr.sPop, Pyr.trF, Pyr.trsF, Trs.len, Pyr.run_max2, Pyr.run_min2, Pyr.backD, Pyr.eSlice, Pyr.oNone, Pyr.oSome, Pyr.optI, Pyr.lSlice, Pyr.listD, eL, Pyr.eB, Pyr.oneD, Pyr.oneL, Pyr.itemsD, Pyr.outR, Pyr.ownD, Pyr.RV.d, Pyr.tupD, Pyr.run_mul, Pyr.run_mulS, Pyr.run_add, Pyr.run_sub, Pyr.run_addS, Pyr.run_mod, Pyr.run_fdiv, Pyr.run_lt, Pyr.run_le, Pyr.run_gt, Pyr.run_ge, Pyr.run_lenL, Pyr.run_lenT, Pyr.run_lenS, Pyr.run_int, Pyr.run_bool, Pyr.run_truB, Pyr.run_truL, Pyr.run_pur1, Pyr.run_frz1, Pyr.run_pSv, Pyr.run_pSo, Pyr.run_pSe, Pyr.run_fSv, Pyr.run_fSo, Pyr.run_fSe, Pyr.run_pur0, Pyr.run_frz0, Pyr.run_v0n, Pyr.run_v0b, Pyr.run_v0i, Pyr.run_v0s, Pyr.run_v0l, Pyr.run_v0t, Pyr.run_v0o, Pyr.run_vN, Pyr.run_vS, Pyr.run_bad, Pyr.run_exc, Pyr.run_map, Pyr.run_okL, List.length_cons, List.length_nil, Pyr.bind_ok, List.set_cons_zero, List.set_cons_succ, List.getElem?_cons_zero, List.getElem?_cons_succ, Pyr.eqD_int, Pyr.eqD_str, Pyr.neD_int, Pyr.neD_str, if_true, if_false, Bool.not_true, Bool.not_false, Bool.false_eq_true, decide_true, decide_false, Pyr.run_atT0, Pyr.run_atT1, Pyr.run_atT2, Pyr.run_atT3, Pyr.run_atT4, Pyr.run_atL0, Pyr.run_atL1, Pyr.run_atL2, Pyr.run_atL3, Pyr.run_atL4, Pyr.isi_str_n, Pyr.isi_str_b, Pyr.isi_str_i, Pyr.isi_str_s, Pyr.isi_str_l, Pyr.isi_str_t, Pyr.isi_str_d, Pyr.isi_int_n, Pyr.isi_int_b, Pyr.isi_int_i, Pyr.isi_int_s, Pyr.isi_int_l, Pyr.isi_int_t, Pyr.isi_int_d, Pyr.isi_bool_n, Pyr.isi_bool_b, Pyr.isi_bool_i, Pyr.isi_bool_s, Pyr.isi_bool_l, Pyr.isi_bool_t, Pyr.isi_bool_d, Pyr.isi_list_n, Pyr.isi_list_b, Pyr.isi_list_i, Pyr.isi_list_s, Pyr.isi_list_l, Pyr.isi_list_t, Pyr.isi_list_d, Pyr.isi_tuple_n, Pyr.isi_tuple_b, Pyr.isi_tuple_i, Pyr.isi_tuple_s, Pyr.isi_tuple_l, Pyr.isi_tuple_t, Pyr.isi_tuple_d, Pyr.isi_dict_n, Pyr.isi_dict_b, Pyr.isi_dict_i, Pyr.isi_dict_s, Pyr.isi_dict_l, Pyr.isi_dict_t, Pyr.isi_dict_d, Nat.reduceAdd, Int.cast_ofNat_Int, Int.natCast_zero, Int.natCast_one, Int.reduceEq, Int.reduceLT, Int.reduceLE, Int.reduceAdd, Int.reduceSub, Int.reduceMul, Int.reduceNeg, Int.reduceNe, Nat.zero_add, reduceIte, decide_eq_true_eq, beq_self_eq_true, eq_self, Bool.true_or, Bool.or_true, Bool.and_true, Bool.true_and, Bool.false_or, Bool.or_false, Bool.and_false, Bool.false_and, List.length_map, map_add]
theorem pool_loop (xs : List Int) : ∀ (m : Nat) (lo : Nat) (vs : List Int) (c : Int) (k st cell one two : Sl), Good vs → lo + m ≤ xs.length → lo + m ≤ 63 → vs.length ≤ 60 * lo → ∃ us c' k' st' cell' one' two', Good us ∧ us.length ≤ 60 * (lo + m) ∧
    forF (Tg.nm 3) B__law_pool_0 (upto lo m) [.val (.list (xs.map .int)), .own (.lst (vs.map .int)), .val (.int c), k, st, cell, one, two] = .ok (.next [.val (.list (xs.map .int)), .own (.lst (us.map .int)), .val (.int c'), k', st', cell', one', two'])
  | 0, lo, vs, c, k, st, cell, one, two, h, _, _, hl => ⟨vs, c, k, st, cell, one, two, h, hl, rfl⟩
  | m + 1, lo, vs, c, k, st, cell, one, two, h, hx, h63, hl => by
    have hat : atD (.list (xs.map PyData.int)) (.int (lo : Int)) = .ok (.int xs[lo]) := at_list (by simp)
    have hr : r1D (.int 60) = .ok (upto 0 60) := r1D_nat (n := 60) (by decide)
    by_cases hb : 1000000000000000000 ≤ xs[lo]
    · obtain ⟨us, c2, st2, h1, h2, h3⟩ := pool_in (.val (.list (xs.map .int))) (.val (.int ((c * 69621 + xs[lo] * 48271 + lo).fmod 2147483647))) (.val (.int (lo : Int))) one two 60 0 vs xs[lo] st h (by omega)
      obtain ⟨us', c', k', st', cell', one', two', r1, r2, r3⟩ := pool_loop xs m (lo + 1) us ((c * 69621 + xs[lo] * 48271 + lo).fmod 2147483647) (.val (.int (lo : Int))) st2 (.val (.int c2)) one two h1 (by omega) (by omega) (by omega)
      refine ⟨us', c', k', st', cell', one', two', r1, by omega, ?_⟩
      rw [← r3]
      refine forF_next (ρ1 := [.val (.list (xs.map .int)), .own (.lst (vs.map .int)), .val (.int c), .val (.int (lo : Int)), st, cell, one, two]) rfl ?_
      unfold B__law_pool_0
      simp -implicitDefEqProofs (disch := omega) only [Pyr.sSeq, Pyr.sIf, Pyr.sSet, Pyr.sSetL, Pyr.sRet, Pyr.sRetL, Pyr.sRetN, Pyr.sRetO, Pyr.sDrop, Pyr.sApp, Pyr.sNext, Pyr.sFrz, Pyr.sSetT, Pyr.tgF, Pyr.setsF, Pyr.evP, Pyr.evL, Pyr.evT, Pyr.bare, Pyr.eC, Pyr.e1, Pyr.e2, Pyr.eN, Pyr.aC, Pyr.a0, Pyr.eIf, Pyr.eAnd, Pyr.eOr, Pyr.eNot, Pyr.eChain, Pyr.tE, Pyr.tNotR, Pyr.tAndR, Pyr.tOrR, Pyr.eCall, Pyr.lCall, Pyr.iF, Pyr.iF2, Pyr.lN, Pyr.lF, Pyr.eFs, Pyr.jC, Pyr.j0, Pyr.eIxV, Pyr.ownI, Pyr.lAdd, Pyr.sExt, Pyr.sPop, Pyr.trF, Pyr.trsF, Trs.len, Pyr.run_max2, Pyr.run_min2, Pyr.backD, Pyr.eSlice, Pyr.oNone, Pyr.oSome, Pyr.optI, Pyr.lSlice, Pyr.listD, eL, Pyr.eB, Pyr.oneD, Pyr.oneL, Pyr.itemsD, Pyr.outR, Pyr.ownD, Pyr.RV.d, Pyr.tupD, Pyr.run_mul, Pyr.run_mulS, Pyr.run_add, Pyr.run_sub, Pyr.run_addS, Pyr.run_mod, Pyr.run_fdiv, Pyr.run_lt, Pyr.run_le, Pyr.run_gt, Pyr.run_ge, Pyr.run_lenL, Pyr.run_lenT, Pyr.run_lenS, Pyr.run_int, Pyr.run_bool, Pyr.run_truB, Pyr.run_truL, Pyr.run_pur1, Pyr.run_frz1, Pyr.run_pSv, Pyr.run_pSo, Pyr.run_pSe, Pyr.run_fSv, Pyr.run_fSo, Pyr.run_fSe, Pyr.run_pur0, Pyr.run_frz0, Pyr.run_v0n, Pyr.run_v0b, Pyr.run_v0i, Pyr.run_v0s, Pyr.run_v0l, Pyr.run_v0t, Pyr.run_v0o, Pyr.run_vN, Pyr.run_vS, Pyr.run_bad, Pyr.run_exc, Pyr.run_map, Pyr.run_okL, List.length_cons, List.length_nil, Pyr.bind_ok, List.set_cons_zero, List.set_cons_succ, List.getElem?_cons_zero, List.getElem?_cons_succ, Pyr.eqD_int, Pyr.eqD_str, Pyr.neD_int, Pyr.neD_str, if_true, if_false, Bool.not_true, Bool.not_false, Bool.false_eq_true, decide_true, decide_false, Pyr.run_atT0, Pyr.run_atT1, Pyr.run_atT2, Pyr.run_atT3, Pyr.run_atT4, Pyr.run_atL0, Pyr.run_atL1, Pyr.run_atL2, Pyr.run_atL3, Pyr.run_atL4, Pyr.isi_str_n, Pyr.isi_str_b, Pyr.isi_str_i, Pyr.isi_str_s, Pyr.isi_str_l, Pyr.isi_str_t, Pyr.isi_str_d, Pyr.isi_int_n, Pyr.isi_int_b, Pyr.isi_int_i, Pyr.isi_int_s, Pyr.isi_int_l, Pyr.isi_int_t, Pyr.isi_int_d, Pyr.isi_bool_n, Pyr.isi_bool_b, Pyr.isi_bool_i, Pyr.isi_bool_s, Pyr.isi_bool_l, Pyr.isi_bool_t, Pyr.isi_bool_d, Pyr.isi_list_n, Pyr.isi_list_b, Pyr.isi_list_i, Pyr.isi_list_s, Pyr.isi_list_l, Pyr.isi_list_t, Pyr.isi_list_d, Pyr.isi_tuple_n, Pyr.isi_tuple_b, Pyr.isi_tuple_i, Pyr.isi_tuple_s, Pyr.isi_tuple_l, Pyr.isi_tuple_t, Pyr.isi_tuple_d, Pyr.isi_dict_n, Pyr.isi_dict_b, Pyr.isi_dict_i, Pyr.isi_dict_s, Pyr.isi_dict_l, Pyr.isi_dict_t, Pyr.isi_dict_d, Nat.reduceAdd, Int.cast_ofNat_Int, Int.natCast_zero, Int.natCast_one, Int.reduceEq, Int.reduceLT, Int.reduceLE, Int.reduceAdd, Int.reduceSub, Int.reduceMul, Int.reduceNeg, Int.reduceNe, Nat.zero_add, reduceIte, decide_eq_true_eq, beq_self_eq_true, eq_self, Bool.true_or, Bool.or_true, Bool.and_true, Bool.true_and, Bool.false_or, Bool.or_false, Bool.and_false, Bool.false_and, hat, pow18, hb, sForR, evR, hr, upto_flat, h3]
    · obtain ⟨us', c', k', st', cell', one', two', r1, r2, r3⟩ := pool_loop xs m (lo + 1) (vs ++ [(((xs[lo] * 48271 + lo * 69621 + 7).fmod 2147483647).fdiv 11).fmod 60] ++ [((((xs[lo] * 48271 + lo * 69621 + 7).fmod 2147483647) * 16807 + xs[lo] * 31 + lo).fmod 1000003).fmod 60]) ((c * 69621 + xs[lo] * 48271 + lo).fmod 2147483647) (.val (.int (lo : Int))) st (.val (.int xs[lo])) (.val (.int ((xs[lo] * 48271 + lo * 69621 + 7).fmod 2147483647))) (.val (.int ((((xs[lo] * 48271 + lo * 69621 + 7).fmod 2147483647) * 16807 + xs[lo] * 31 + lo).fmod 1000003))) (good_add (good_add h _) _) (by omega) (by omega) (by simp only [List.length_append, List.length_cons, List.length_nil]; omega)
      refine ⟨us', c', k', st', cell', one', two', r1, by omega, ?_⟩
      rw [← r3]
      refine forF_next (ρ1 := [.val (.list (xs.map .int)), .own (.lst (vs.map .int)), .val (.int c), .val (.int (lo : Int)), st, cell, one, two]) rfl ?_
      unfold B__law_pool_0
      simp -implicitDefEqProofs (disch := omega) only [Pyr.sSeq, Pyr.sIf, Pyr.sSet, Pyr.sSetL, Pyr.sRet, Pyr.sRetL, Pyr.sRetN, Pyr.sRetO, Pyr.sDrop, Pyr.sApp, Pyr.sNext, Pyr.sFrz, Pyr.sSetT, Pyr.tgF, Pyr.setsF, Pyr.evP, Pyr.evL, Pyr.evT, Pyr.bare, Pyr.eC, Pyr.e1, Pyr.e2, Pyr.eN, Pyr.aC, Pyr.a0, Pyr.eIf, Pyr.eAnd, Pyr.eOr, Pyr.eNot, Pyr.eChain, Pyr.tE, Pyr.tNotR, Pyr.tAndR, Pyr.tOrR, Pyr.eCall, Pyr.lCall, Pyr.iF, Pyr.iF2, Pyr.lN, Pyr.lF, Pyr.eFs, Pyr.jC, Pyr.j0, Pyr.eIxV, Pyr.ownI, Pyr.lAdd, Pyr.sExt, Pyr.sPop, Pyr.trF, Pyr.trsF, Trs.len, Pyr.run_max2, Pyr.run_min2, Pyr.backD, Pyr.eSlice, Pyr.oNone, Pyr.oSome, Pyr.optI, Pyr.lSlice, Pyr.listD, eL, Pyr.eB, Pyr.oneD, Pyr.oneL, Pyr.itemsD, Pyr.outR, Pyr.ownD, Pyr.RV.d, Pyr.tupD, Pyr.run_mul, Pyr.run_mulS, Pyr.run_add, Pyr.run_sub, Pyr.run_addS, Pyr.run_mod, Pyr.run_fdiv, Pyr.run_lt, Pyr.run_le, Pyr.run_gt, Pyr.run_ge, Pyr.run_lenL, Pyr.run_lenT, Pyr.run_lenS, Pyr.run_int, Pyr.run_bool, Pyr.run_truB, Pyr.run_truL, Pyr.run_pur1, Pyr.run_frz1, Pyr.run_pSv, Pyr.run_pSo, Pyr.run_pSe, Pyr.run_fSv, Pyr.run_fSo, Pyr.run_fSe, Pyr.run_pur0, Pyr.run_frz0, Pyr.run_v0n, Pyr.run_v0b, Pyr.run_v0i, Pyr.run_v0s, Pyr.run_v0l, Pyr.run_v0t, Pyr.run_v0o, Pyr.run_vN, Pyr.run_vS, Pyr.run_bad, Pyr.run_exc, Pyr.run_map, Pyr.run_okL, List.length_cons, List.length_nil, Pyr.bind_ok, List.set_cons_zero, List.set_cons_succ, List.getElem?_cons_zero, List.getElem?_cons_succ, Pyr.eqD_int, Pyr.eqD_str, Pyr.neD_int, Pyr.neD_str, if_true, if_false, Bool.not_true, Bool.not_false, Bool.false_eq_true, decide_true, decide_false, Pyr.run_atT0, Pyr.run_atT1, Pyr.run_atT2, Pyr.run_atT3, Pyr.run_atT4, Pyr.run_atL0, Pyr.run_atL1, Pyr.run_atL2, Pyr.run_atL3, Pyr.run_atL4, Pyr.isi_str_n, Pyr.isi_str_b, Pyr.isi_str_i, Pyr.isi_str_s, Pyr.isi_str_l, Pyr.isi_str_t, Pyr.isi_str_d, Pyr.isi_int_n, Pyr.isi_int_b, Pyr.isi_int_i, Pyr.isi_int_s, Pyr.isi_int_l, Pyr.isi_int_t, Pyr.isi_int_d, Pyr.isi_bool_n, Pyr.isi_bool_b, Pyr.isi_bool_i, Pyr.isi_bool_s, Pyr.isi_bool_l, Pyr.isi_bool_t, Pyr.isi_bool_d, Pyr.isi_list_n, Pyr.isi_list_b, Pyr.isi_list_i, Pyr.isi_list_s, Pyr.isi_list_l, Pyr.isi_list_t, Pyr.isi_list_d, Pyr.isi_tuple_n, Pyr.isi_tuple_b, Pyr.isi_tuple_i, Pyr.isi_tuple_s, Pyr.isi_tuple_l, Pyr.isi_tuple_t, Pyr.isi_tuple_d, Pyr.isi_dict_n, Pyr.isi_dict_b, Pyr.isi_dict_i, Pyr.isi_dict_s, Pyr.isi_dict_l, Pyr.isi_dict_t, Pyr.isi_dict_d, Nat.reduceAdd, Int.cast_ofNat_Int, Int.natCast_zero, Int.natCast_one, Int.reduceEq, Int.reduceLT, Int.reduceLE, Int.reduceAdd, Int.reduceSub, Int.reduceMul, Int.reduceNeg, Int.reduceNe, Nat.zero_add, reduceIte, decide_eq_true_eq, beq_self_eq_true, eq_self, Bool.true_or, Bool.or_true, Bool.and_true, Bool.true_and, Bool.false_or, Bool.or_false, Bool.and_false, Bool.false_and, hat, pow18, hb, List.length_map, List.map_append, List.map_cons, List.map_nil, List.all_cons, List.all_nil, flat0, ints_flat, List.all_append, List.append_assoc, List.cons_append, List.nil_append]
theorem pool_run (xs : List Int) (hx : xs.length ≤ 63) : ∃ vs : List Int, Good vs ∧ 300 ≤ vs.length ∧ m__law_pool [.list (xs.map .int)] = .ok (.own (vs.map .int)) := by
  obtain ⟨us, c', k', st', cell', one', two', h1, h2, h3⟩ := pool_loop xs xs.length 0 [] 17 .emp .emp .emp .emp .emp (fun v hv => absurd hv (by simp)) (by omega) (by omega) (by simp)
  obtain ⟨vs, c2, st2, g1, g2, g3⟩ := pool_out (.val (.list (xs.map .int))) k' cell' one' two' 300 0 us c' st' h1 (by omega)
  refine ⟨vs, g1, by omega, ?_⟩
  unfold m__law_pool
  rw [defM_eq (np := 1) rfl]
  show outR (F__law_pool [.val (.list (xs.map .int)), .emp, .emp, .emp, .emp, .emp, .emp, .emp]) = _
  unfold F__law_pool
  have hm : (if (63 : Int) < (xs.length : Int) then (63 : Int) else xs.length) = xs.length := if_neg (by omega)
  have hr : r1D (.int (xs.length : Int)) = .ok (upto 0 xs.length) := r1D_nat (by show _ ≤ 100000; omega)
  have hr3 : r1D (.int 300) = .ok (upto 0 300) := r1D_nat (n := 300) (by decide)
  have h3 : forF (Tg.nm 3) B__law_pool_0 (upto 0 xs.length) [.val (.list (xs.map .int)), .own (.lst []), .val (.int 17), .emp, .emp, .emp, .emp, .emp] = _ := h3
  simp -implicitDefEqProofs (disch := omega) only [Pyr.sSeq, Pyr.sIf, Pyr.sSet, Pyr.sSetL, Pyr.sRet, Pyr.sRetL, Pyr.sRetN, Pyr.sRetO, Pyr.sDrop, Pyr.sApp, Pyr.sNext, Pyr.sFrz, Pyr.sSetT, Pyr.tgF, Pyr.setsF, Pyr.evP, Pyr.evL, Pyr.evT, Pyr.bare, Pyr.eC, Pyr.e1, Pyr.e2, Pyr.eN, Pyr.aC, Pyr.a0, Pyr.eIf, Pyr.eAnd, Pyr.eOr, Pyr.eNot, Pyr.eChain, Pyr.tE, Pyr.tNotR, Pyr.tAndR, Pyr.tOrR, Pyr.eCall, Pyr.lCall, Pyr.iF, Pyr.iF2, Pyr.lN, Pyr.lF, Pyr.eFs, Pyr.jC, Pyr.j0, Pyr.eIxV, Pyr.ownI, Pyr.lAdd, Pyr.sExt, Pyr.sPop, Pyr.trF, Pyr.trsF, Trs.len, Pyr.run_max2, Pyr.run_min2, Pyr.backD, Pyr.eSlice, Pyr.oNone, Pyr.oSome, Pyr.optI, Pyr.lSlice, Pyr.listD, eL, Pyr.eB, Pyr.oneD, Pyr.oneL, Pyr.itemsD, Pyr.outR, Pyr.ownD, Pyr.RV.d, Pyr.tupD, Pyr.run_mul, Pyr.run_mulS, Pyr.run_add, Pyr.run_sub, Pyr.run_addS, Pyr.run_mod, Pyr.run_fdiv, Pyr.run_lt, Pyr.run_le, Pyr.run_gt, Pyr.run_ge, Pyr.run_lenL, Pyr.run_lenT, Pyr.run_lenS, Pyr.run_int, Pyr.run_bool, Pyr.run_truB, Pyr.run_truL, Pyr.run_pur1, Pyr.run_frz1, Pyr.run_pSv, Pyr.run_pSo, Pyr.run_pSe, Pyr.run_fSv, Pyr.run_fSo, Pyr.run_fSe, Pyr.run_pur0, Pyr.run_frz0, Pyr.run_v0n, Pyr.run_v0b, Pyr.run_v0i, Pyr.run_v0s, Pyr.run_v0l, Pyr.run_v0t, Pyr.run_v0o, Pyr.run_vN, Pyr.run_vS, Pyr.run_bad, Pyr.run_exc, Pyr.run_map, Pyr.run_okL, List.length_cons, List.length_nil, Pyr.bind_ok, List.set_cons_zero, List.set_cons_succ, List.getElem?_cons_zero, List.getElem?_cons_succ, Pyr.eqD_int, Pyr.eqD_str, Pyr.neD_int, Pyr.neD_str, if_true, if_false, Bool.not_true, Bool.not_false, Bool.false_eq_true, decide_true, decide_false, Pyr.run_atT0, Pyr.run_atT1, Pyr.run_atT2, Pyr.run_atT3, Pyr.run_atT4, Pyr.run_atL0, Pyr.run_atL1, Pyr.run_atL2, Pyr.run_atL3, Pyr.run_atL4, Pyr.isi_str_n, Pyr.isi_str_b, Pyr.isi_str_i, Pyr.isi_str_s, Pyr.isi_str_l, Pyr.isi_str_t, Pyr.isi_str_d, Pyr.isi_int_n, Pyr.isi_int_b, Pyr.isi_int_i, Pyr.isi_int_s, Pyr.isi_int_l, Pyr.isi_int_t, Pyr.isi_int_d, Pyr.isi_bool_n, Pyr.isi_bool_b, Pyr.isi_bool_i, Pyr.isi_bool_s, Pyr.isi_bool_l, Pyr.isi_bool_t, Pyr.isi_bool_d, Pyr.isi_list_n, Pyr.isi_list_b, Pyr.isi_list_i, Pyr.isi_list_s, Pyr.isi_list_l, Pyr.isi_list_t, Pyr.isi_list_d, Pyr.isi_tuple_n, Pyr.isi_tuple_b, Pyr.isi_tuple_i, Pyr.isi_tuple_s, Pyr.isi_tuple_l, Pyr.isi_tuple_t, Pyr.isi_tuple_d, Pyr.isi_dict_n, Pyr.isi_dict_b, Pyr.isi_dict_i, Pyr.isi_dict_s, Pyr.isi_dict_l, Pyr.isi_dict_t, Pyr.isi_dict_d, Nat.reduceAdd, Int.cast_ofNat_Int, Int.natCast_zero, Int.natCast_one, Int.reduceEq, Int.reduceLT, Int.reduceLE, Int.reduceAdd, Int.reduceSub, Int.reduceMul, Int.reduceNeg, Int.reduceNe, Nat.zero_add, reduceIte, decide_eq_true_eq, beq_self_eq_true, eq_self, Bool.true_or, Bool.or_true, Bool.and_true, Bool.true_and, Bool.false_or, Bool.or_false, Bool.and_false, Bool.false_and, T__law_pool_1, T__law_pool_2, T__law_pool_3, T__law_pool_4, List.length_map, sForR, evR, hm, hr, hr3, upto_flat, h3, g3]
/-! numbers in words -/
def dS (n : Nat) : Str := Str.ofString (toString (n : Int))
def dW (n : Nat) : Str := "a" ++ dS n
def val (x : Str) : Nat := (x.cps.toList.drop 1).foldl (fun a c => a * 10 + (c - 48)) 0
theorem dW_all : ∀ n < 200, (decide (val (dW n) = n) && decide ((dS n).length ≤ 3) && PyData.strOk (dW n)) = true := by decide +kernel
theorem dW_inj {i j : Nat} (hi : i < 200) (hj : j < 200) (h : dW i = dW j) : i = j := by
  have a := dW_all i hi
  have b := dW_all j hj
  simp only [Bool.and_eq_true, decide_eq_true_eq] at a b
  rw [← a.1.1, ← b.1.1, h]
theorem dS_len {n : Nat} (h : n < 200) : (dS n).length ≤ 3 := by
  have a := dW_all n h
  simp only [Bool.and_eq_true, decide_eq_true_eq] at a
  exact a.1.2
theorem dW_ok {n : Nat} (h : n < 200) : PyData.strOk (dW n) = true := by
  have a := dW_all n h
  simp only [Bool.and_eq_true, decide_eq_true_eq] at a
  exact a.2
theorem strD_n {n : Nat} (h : n < 200) : strD (.int (n : Int)) = .ok (.str (dS n)) := by
  refine if_pos ?_
  rw [Int.natAbs_natCast]
  exact Nat.lt_of_le_of_lt (Nat.log2_le_self n) (by omega)
theorem fmtD_n {n : Nat} (h : n < 200) : fmtD (.int (n : Int)) = .ok (.str (dS n)) := strD_n h
/-! the next number whose word is not among the used ones -/
def nx (U : List Str) : Nat → Nat → Nat
  | 0, n => n
  | m + 1, n => if dW n ∈ U then nx U m (n + 1) else n
theorem nx_le (U : List Str) : ∀ m n, n ≤ nx U m n ∧ nx U m n ≤ n + m
  | 0, n => ⟨Nat.le_refl _, Nat.le_refl _⟩
  | m + 1, n => by
    unfold nx
    obtain ⟨h1, h2⟩ := nx_le U m (n + 1)
    split <;> omega
theorem many (m n : Nat) : ∀ U : List Str, n + m < 200 → (∀ i, i ≤ m → dW (n + i) ∈ U) → m + 1 ≤ U.length := by
  induction m with
  | zero =>
    intro U _ h
    exact List.length_pos_of_mem (h 0 (Nat.le_refl _))
  | succ m ih =>
    intro U hl h
    have hm := h (m + 1) (Nat.le_refl _)
    have := ih (U.erase (dW (n + (m + 1)))) (by omega) fun i hi => (List.mem_erase_of_ne fun e => by
      have := dW_inj (by omega) (by omega) e
      omega).mpr (h i (by omega))
    rw [List.length_erase_of_mem hm] at this
    have := List.length_pos_of_mem hm
    omega
theorem nx_all (U : List Str) : ∀ m n, dW (nx U m n) ∈ U → ∀ i, i ≤ m → dW (n + i) ∈ U
  | 0, n, h, i, hi => by
    have : i = 0 := by omega
    subst this
    exact h
  | m + 1, n, h, i, hi => by
    unfold nx at h
    split at h
    · rename_i hn
      cases i with
      | zero => exact hn
      | succ i =>
        have := nx_all U m (n + 1) h i (by omega)
        rw [show n + (i + 1) = n + 1 + i by omega]
        exact this
    · rename_i hn
      exact absurd h hn
theorem nx_out (U : List Str) (n : Nat) (h : n + U.length < 200) : dW (nx U U.length n) ∉ U := fun z => by
  have := many U.length n U h (nx_all U U.length n z)
  omega
def nums (U : List Str) : Nat → Nat → List Nat
  | 0, _ => []
  | j + 1, n => nx U U.length n :: nums U j (nx U U.length n + 1)
theorem nums_len (U : List Str) : ∀ j n, (nums U j n).length = j
  | 0, _ => rfl
  | j + 1, n => by rw [nums, List.length_cons, nums_len U j]
/-! fresh_words -/
abbrev fF (U : List Str) (c : Nat) (F : List Pyr.D) (n : Nat) (s5 : Sl) : Frm := [.val (.list (U.map .str)), .val (.int (c : Int)), .own (.set (U.map .str)), .own (.lst F), .val (.int (n : Int)), s5]
theorem word_ev {U : List Str} {c : Nat} {F : List Pyr.D} {n : Nat} {s5 : Sl} (hn : n < 200) : (eFs (jC (eC (.str "a")) (jC (Pyr.e1 fmtD (eVar 4)) j0))) (purE (fF U c F n s5)) = .ok (.str (dW n)) := by
  have h4 : Pyr.e1 fmtD (eVar 4) (purE (fF U c F n s5)) = .ok (.str (dS n)) := (e1_ok (x := .int (n : Int)) rfl).trans (fmtD_n hn)
  have ha : ("a" : Str).length = 1 := by decide +kernel
  have hl := dS_len hn
  unfold eFs jC
  rw [h4]
  show okL (("a" : Str) ++ (dS n ++ Str.empty)).length (Res.ok (PyData.str (("a" : Str) ++ (dS n ++ Str.empty)))) = _
  rw [app_empty, okL_ok (by rw [app_len]; show _ ≤ 100000; omega)]
  rfl
theorem step_fw {U : List Str} {c : Nat} {F : List Pyr.D} {n : Nat} {s5 : Sl} (hn : n < 200) (hF : F.length ≤ 1000) : B_fresh_words_0 (fF U c F n s5) = .ok (.next (fF U c (if dW n ∈ U then F else F ++ [PyData.str (dW n)]) (n + 1) (.val (.str (dW n))))) := by
  unfold B_fresh_words_0
  rw [seq_ok (set_ok (word_ev hn))]
  have ht : (eInS true 2 (eVar 5)) (frzE ((fF U c F n s5).set 5 (.val (.str (dW n))))) = .ok (true != decide (dW n ∈ U)) := inS_ok (xs := U) rfl rfl
  by_cases h : dW n ∈ U
  · rw [seq_ok ((if_ok ht).trans (by rw [decide_eq_true h]; rfl)), if_pos h]
    rfl
  · rw [seq_ok ((if_ok ht).trans ((if_pos (by rw [decide_eq_false h]; rfl)).trans (Pyr.app_ok (ds := F) (d := .str (dW n)) rfl rfl (by show _ ≤ 100000; omega)))), if_neg h]
    rfl
abbrev wt : En → Res Bool := tE boolD (Pyr.e2 ltD (eN (oneD lenD) (aC (eVar 3) a0)) (eVar 1))
theorem wt_ev {U : List Str} {c : Nat} {F : List Pyr.D} {n : Nat} {s5 : Sl} : evT wt (fF U c F n s5) = .ok (decide (F.length < c)) := by
  refine evT_ok ((tE_ok (x := .bool (decide ((F.length : Int) < (c : Int)))) rfl).trans ?_)
  show Res.ok (decide ((F.length : Int) < (c : Int))) = _
  congr 1
  rw [decide_eq_decide]
  omega
theorem skip_fw (U : List Str) (c : Nat) (F : List Pyr.D) (hF : F.length < c) (hc : c ≤ 100) : ∀ (m n k : Nat) (s5 : Sl), n + m < 200 → dW (nx U m n) ∉ U → m + 1 ≤ k → ∃ k' s5', k ≤ k' + (m + 1) ∧ whileF wt B_fresh_words_0 k (fF U c F n s5) = whileF wt B_fresh_words_0 k' (fF U c (F ++ [.str (dW (nx U m n))]) (nx U m n + 1) s5') := by
  have base : ∀ (n k : Nat) (s5 : Sl), n < 200 → dW n ∉ U → 1 ≤ k → ∃ k' s5', k ≤ k' + 1 ∧ whileF wt B_fresh_words_0 k (fF U c F n s5) = whileF wt B_fresh_words_0 k' (fF U c (F ++ [PyData.str (dW n)]) (n + 1) s5') := by
    intro n k s5 hn ho hk
    obtain ⟨k, rfl⟩ : ∃ j, k = j + 1 := ⟨k - 1, by omega⟩
    refine ⟨k, .val (.str (dW n)), Nat.le_refl _, ?_⟩
    rw [while_next (wt_ev.trans (by rw [decide_eq_true hF])) (step_fw hn (by omega)), if_neg ho]
  intro m
  induction m with
  | zero => exact fun n k s5 hn ho hk => base n k s5 hn ho hk
  | succ m ih =>
    intro n k s5 hn ho hk
    by_cases h : dW n ∈ U
    · have e : nx U (m + 1) n = nx U m (n + 1) := if_pos h
      rw [e] at ho ⊢
      obtain ⟨k, rfl⟩ : ∃ j, k = j + 1 := ⟨k - 1, by omega⟩
      rw [while_next (wt_ev.trans (by rw [decide_eq_true hF])) (step_fw (by omega) (by omega)), if_pos h]
      obtain ⟨k', s5', h1, h2⟩ := ih (n + 1) k (.val (.str (dW n))) (by omega) ho (by omega)
      exact ⟨k', s5', by omega, h2⟩
    · have e : nx U (m + 1) n = n := if_neg h
      rw [e] at ho ⊢
      obtain ⟨k', s5', h1, h2⟩ := base n k s5 (by omega) ho (by omega)
      exact ⟨k', s5', by omega, h2⟩
theorem loop_fw (U : List Str) (hU : U.length ≤ 8) (c : Nat) (hc : c ≤ 14) : ∀ (j n k : Nat) (F : List Pyr.D) (s5 : Sl), F.length + j = c → n + j * 9 ≤ 150 → j * 9 + 1 ≤ k → ∃ n' s5', whileF wt B_fresh_words_0 k (fF U c F n s5) = .ok (.next (fF U c (F ++ (nums U j n).map fun i => .str (dW i)) n' s5')) := by
  intro j
  induction j with
  | zero =>
    intro n k F s5 h1 h2 h3
    obtain ⟨k, rfl⟩ : ∃ j, k = j + 1 := ⟨k - 1, by omega⟩
    refine ⟨n, s5, ?_⟩
    rw [while_end (wt_ev.trans (by rw [decide_eq_false (by omega)]))]
    show _ = Res.ok (Fl.next (fF U c (F ++ []) n s5))
    rw [List.append_nil]
  | succ j ih =>
    intro n k F s5 h1 h2 h3
    have b := nx_le U U.length n
    obtain ⟨k', s5', g1, g2⟩ := skip_fw U c F (by omega) (by omega) U.length n k s5 (by omega) (nx_out U n (by omega)) (by omega)
    obtain ⟨n', s5'', g3⟩ := ih (nx U U.length n + 1) k' (F ++ [.str (dW (nx U U.length n))]) s5' (by rw [List.length_append, List.length_cons, List.length_nil]; omega) (by omega) (by omega)
    refine ⟨n', s5'', g2.trans (g3.trans ?_)⟩
    rw [List.append_assoc]
    rfl
theorem fresh_run (U : List Str) (hU : U.length ≤ 8) (c : Nat) (hc : c ≤ 14) : m_fresh_words [.list (U.map .str), .int (c : Int)] = .ok (.own ((nums U c 0).map fun i => .str (dW i))) := by
  unfold m_fresh_words
  rw [defM_eq (np := 2) rfl]
  show outR (F_fresh_words [.val (.list (U.map .str)), .val (.int (c : Int)), .emp, .emp, .emp, .emp]) = _
  unfold F_fresh_words
  rw [seq_ok (setS_ok (i := 2) (ds := U.map .str) rfl (texts_ok (by omega)))]
  unfold T_fresh_words_1
  rw [seq_ok (setL_ok (i := 3) (d := []) rfl)]
  unfold T_fresh_words_2
  rw [seq_ok (set_ok (i := 4) (d := .int 0) rfl)]
  unfold T_fresh_words_3
  obtain ⟨n', s5', h⟩ := loop_fw U hU c hc c 0 1000 [] .emp (by simp) (by omega) (by omega)
  show outR (sSeq (whileF wt B_fresh_words_0 1000) T_fresh_words_4 (fF U c [] 0 .emp)) = _
  rw [seq_ok h]
  rfl
/-! the drawn words -/
theorem at_pool {vs : List Int} (j : Nat) (i : Int) (e : i = (j : Int)) (h : j < vs.length) : ∃ v, atD (.list (vs.map PyData.int)) (.int i) = .ok (.int v) := ⟨vs[j], by rw [e]; exact at_list (by simp [h])⟩
abbrev lets : Str := "abcdefghijklmnopqrstuvwxyz0123456789"
theorem lets_is : lets.cps.toList = [97, 98, 99, 100, 101, 102, 103, 104, 105, 106, 107, 108, 109, 110, 111, 112, 113, 114, 115, 116, 117, 118, 119, 120, 121, 122, 48, 49, 50, 51, 52, 53, 54, 55, 56, 57] := by decide +kernel
theorem let_at (n : Int) : ∃ c, c < 200 ∧ atD (.str lets) (.int (n.fmod 36)) = .ok (.str ⟨#[c]⟩) := by
  obtain ⟨j, e, hj⟩ := fmod_nat n (m := 36) (by decide)
  have e : n.fmod 36 = (j : Int) := e
  rw [e]
  have hl : j < lets.cps.toList.length := by rw [lets_is]; exact hj
  refine ⟨lets.cps.toList[j], ?_, at_str (List.getElem?_eq_getElem hl) (by rw [tl_len, lets_is]; show 36 ≤ 100000; omega)⟩
  have : ∀ c ∈ lets.cps.toList, c < 200 := by rw [lets_is]; decide
  exact this _ (List.getElem_mem hl)
theorem ok_l {x : Str} (h : ∀ c ∈ x.cps.toList, c < 200) : PyData.strOk x = true := by
  unfold PyData.strOk
  rw [← Array.all_toList, List.all_eq_true]
  exact fun c hc => decide_eq_true (Nat.lt_trans (h c hc) (by decide))
theorem one_okS {c : Nat} (h : c < 200) : PyData.strOk ⟨#[c]⟩ = true := ok_l fun d hd => by
  have : d = c := by simpa using hd
  rw [this]
  exact h
theorem word_run (vs : List Int) (at' : Nat) (h : at' + 2 < vs.length) : ∃ y : Str, PyData.strOk y = true ∧ m__law_word [.list (vs.map .int), .int (at' : Int)] = .ok (.val (.str y)) := by
  obtain ⟨a, ha⟩ := at_pool (vs := vs) at' (at' : Int) rfl (by omega)
  obtain ⟨b, hb⟩ := at_pool (vs := vs) (at' + 1) ((at' : Int) + 1) (by omega) (by omega)
  obtain ⟨d, hd⟩ := at_pool (vs := vs) (at' + 2) ((at' : Int) + 2) (by omega) (by omega)
  obtain ⟨c1, h1, l1⟩ := let_at b
  obtain ⟨c2, h2, l2⟩ := let_at d
  obtain ⟨j, ej, hj⟩ := fmod_nat b (m := 12) (by decide)
  have ej : b.fmod 12 = (j : Int) := ej
  have hs : strD (.int (b.fmod 12)) = .ok (.str (dS j)) := by rw [ej]; exact strD_n (by omega)
  have hsl := dS_len (n := j) (by omega)
  have hal : ("a" : Str).length = 1 := by decide +kernel
  have x1 : (⟨#[c1]⟩ : Str).length = 1 := rfl
  have x2 : (⟨#[c2]⟩ : Str).length = 1 := rfl
  have hr : (repS ⟨#[c1]⟩ 11).length = 11 := rfl
  have hm : mul2D (.str ⟨#[c1]⟩) (.int 11) = .ok (.str (repS ⟨#[c1]⟩ 11)) := run_mulS (x := ⟨#[c1]⟩) (n := 11) ⟨by decide, by rw [x1]; decide⟩
  unfold m__law_word
  rw [defM_eq (np := 2) rfl]
  show ∃ y : Str, PyData.strOk y = true ∧ outR (F__law_word [.val (.list (vs.map .int)), .val (.int (at' : Int)), .emp, .emp, .emp]) = _
  unfold F__law_word
  by_cases q0 : a.fmod 6 = 0
  · refine ⟨("a" : Str) ++ dS j, dW_ok (n := j) (by omega), ?_⟩
    simp -implicitDefEqProofs (disch := omega) only [Pyr.sSeq, Pyr.sIf, Pyr.sSet, Pyr.sSetL, Pyr.sRet, Pyr.sRetL, Pyr.sRetN, Pyr.sRetO, Pyr.sDrop, Pyr.sApp, Pyr.sNext, Pyr.sFrz, Pyr.sSetT, Pyr.tgF, Pyr.setsF, Pyr.evP, Pyr.evL, Pyr.evT, Pyr.bare, Pyr.eC, Pyr.e1, Pyr.e2, Pyr.eN, Pyr.aC, Pyr.a0, Pyr.eIf, Pyr.eAnd, Pyr.eOr, Pyr.eNot, Pyr.eChain, Pyr.tE, Pyr.tNotR, Pyr.tAndR, Pyr.tOrR, Pyr.eCall, Pyr.lCall, Pyr.iF, Pyr.iF2, Pyr.lN, Pyr.lF, Pyr.eFs, Pyr.jC, Pyr.j0, Pyr.eIxV, Pyr.ownI, Pyr.lAdd, Pyr.sExt, Pyr.sPop, Pyr.trF, Pyr.trsF, Trs.len, Pyr.run_max2, Pyr.run_min2, Pyr.backD, Pyr.eSlice, Pyr.oNone, Pyr.oSome, Pyr.optI, Pyr.lSlice, Pyr.listD, eL, Pyr.eB, Pyr.oneD, Pyr.oneL, Pyr.itemsD, Pyr.outR, Pyr.ownD, Pyr.RV.d, Pyr.tupD, Pyr.run_mul, Pyr.run_mulS, Pyr.run_add, Pyr.run_sub, Pyr.run_addS, Pyr.run_mod, Pyr.run_fdiv, Pyr.run_lt, Pyr.run_le, Pyr.run_gt, Pyr.run_ge, Pyr.run_lenL, Pyr.run_lenT, Pyr.run_lenS, Pyr.run_int, Pyr.run_bool, Pyr.run_truB, Pyr.run_truL, Pyr.run_pur1, Pyr.run_frz1, Pyr.run_pSv, Pyr.run_pSo, Pyr.run_pSe, Pyr.run_fSv, Pyr.run_fSo, Pyr.run_fSe, Pyr.run_pur0, Pyr.run_frz0, Pyr.run_v0n, Pyr.run_v0b, Pyr.run_v0i, Pyr.run_v0s, Pyr.run_v0l, Pyr.run_v0t, Pyr.run_v0o, Pyr.run_vN, Pyr.run_vS, Pyr.run_bad, Pyr.run_exc, Pyr.run_map, Pyr.run_okL, List.length_cons, List.length_nil, Pyr.bind_ok, List.set_cons_zero, List.set_cons_succ, List.getElem?_cons_zero, List.getElem?_cons_succ, Pyr.eqD_int, Pyr.eqD_str, Pyr.neD_int, Pyr.neD_str, if_true, if_false, Bool.not_true, Bool.not_false, Bool.false_eq_true, decide_true, decide_false, Pyr.run_atT0, Pyr.run_atT1, Pyr.run_atT2, Pyr.run_atT3, Pyr.run_atT4, Pyr.run_atL0, Pyr.run_atL1, Pyr.run_atL2, Pyr.run_atL3, Pyr.run_atL4, Pyr.isi_str_n, Pyr.isi_str_b, Pyr.isi_str_i, Pyr.isi_str_s, Pyr.isi_str_l, Pyr.isi_str_t, Pyr.isi_str_d, Pyr.isi_int_n, Pyr.isi_int_b, Pyr.isi_int_i, Pyr.isi_int_s, Pyr.isi_int_l, Pyr.isi_int_t, Pyr.isi_int_d, Pyr.isi_bool_n, Pyr.isi_bool_b, Pyr.isi_bool_i, Pyr.isi_bool_s, Pyr.isi_bool_l, Pyr.isi_bool_t, Pyr.isi_bool_d, Pyr.isi_list_n, Pyr.isi_list_b, Pyr.isi_list_i, Pyr.isi_list_s, Pyr.isi_list_l, Pyr.isi_list_t, Pyr.isi_list_d, Pyr.isi_tuple_n, Pyr.isi_tuple_b, Pyr.isi_tuple_i, Pyr.isi_tuple_s, Pyr.isi_tuple_l, Pyr.isi_tuple_t, Pyr.isi_tuple_d, Pyr.isi_dict_n, Pyr.isi_dict_b, Pyr.isi_dict_i, Pyr.isi_dict_s, Pyr.isi_dict_l, Pyr.isi_dict_t, Pyr.isi_dict_d, Nat.reduceAdd, Int.cast_ofNat_Int, Int.natCast_zero, Int.natCast_one, Int.reduceEq, Int.reduceLT, Int.reduceLE, Int.reduceAdd, Int.reduceSub, Int.reduceMul, Int.reduceNeg, Int.reduceNe, Nat.zero_add, reduceIte, decide_eq_true_eq, beq_self_eq_true, eq_self, Bool.true_or, Bool.or_true, Bool.and_true, Bool.true_and, Bool.false_or, Bool.or_false, Bool.and_false, Bool.false_and, T__law_word_1, T__law_word_2, T__law_word_3, T__law_word_4, T__law_word_5, T__law_word_6, ha, hb, hd, l1, l2, q0, hs]
  · by_cases q1 : a.fmod 6 = 1
    · refine ⟨repS ⟨#[c1]⟩ 11 ++ ⟨#[c2]⟩, strOk_app (ok_l fun z hz => ?_) (one_okS h2), ?_⟩
      · have : (repS ⟨#[c1]⟩ 11).cps.toList = [c1, c1, c1, c1, c1, c1, c1, c1, c1, c1, c1] := rfl
        rw [this] at hz
        have : z = c1 := by simpa using hz
        rw [this]
        exact h1
      · simp -implicitDefEqProofs (disch := omega) only [Pyr.sSeq, Pyr.sIf, Pyr.sSet, Pyr.sSetL, Pyr.sRet, Pyr.sRetL, Pyr.sRetN, Pyr.sRetO, Pyr.sDrop, Pyr.sApp, Pyr.sNext, Pyr.sFrz, Pyr.sSetT, Pyr.tgF, Pyr.setsF, Pyr.evP, Pyr.evL, Pyr.evT, Pyr.bare, Pyr.eC, Pyr.e1, Pyr.e2, Pyr.eN, Pyr.aC, Pyr.a0, Pyr.eIf, Pyr.eAnd, Pyr.eOr, Pyr.eNot, Pyr.eChain, Pyr.tE, Pyr.tNotR, Pyr.tAndR, Pyr.tOrR, Pyr.eCall, Pyr.lCall, Pyr.iF, Pyr.iF2, Pyr.lN, Pyr.lF, Pyr.eFs, Pyr.jC, Pyr.j0, Pyr.eIxV, Pyr.ownI, Pyr.lAdd, Pyr.sExt, Pyr.sPop, Pyr.trF, Pyr.trsF, Trs.len, Pyr.run_max2, Pyr.run_min2, Pyr.backD, Pyr.eSlice, Pyr.oNone, Pyr.oSome, Pyr.optI, Pyr.lSlice, Pyr.listD, eL, Pyr.eB, Pyr.oneD, Pyr.oneL, Pyr.itemsD, Pyr.outR, Pyr.ownD, Pyr.RV.d, Pyr.tupD, Pyr.run_mul, Pyr.run_mulS, Pyr.run_add, Pyr.run_sub, Pyr.run_addS, Pyr.run_mod, Pyr.run_fdiv, Pyr.run_lt, Pyr.run_le, Pyr.run_gt, Pyr.run_ge, Pyr.run_lenL, Pyr.run_lenT, Pyr.run_lenS, Pyr.run_int, Pyr.run_bool, Pyr.run_truB, Pyr.run_truL, Pyr.run_pur1, Pyr.run_frz1, Pyr.run_pSv, Pyr.run_pSo, Pyr.run_pSe, Pyr.run_fSv, Pyr.run_fSo, Pyr.run_fSe, Pyr.run_pur0, Pyr.run_frz0, Pyr.run_v0n, Pyr.run_v0b, Pyr.run_v0i, Pyr.run_v0s, Pyr.run_v0l, Pyr.run_v0t, Pyr.run_v0o, Pyr.run_vN, Pyr.run_vS, Pyr.run_bad, Pyr.run_exc, Pyr.run_map, Pyr.run_okL, List.length_cons, List.length_nil, Pyr.bind_ok, List.set_cons_zero, List.set_cons_succ, List.getElem?_cons_zero, List.getElem?_cons_succ, Pyr.eqD_int, Pyr.eqD_str, Pyr.neD_int, Pyr.neD_str, if_true, if_false, Bool.not_true, Bool.not_false, Bool.false_eq_true, decide_true, decide_false, Pyr.run_atT0, Pyr.run_atT1, Pyr.run_atT2, Pyr.run_atT3, Pyr.run_atT4, Pyr.run_atL0, Pyr.run_atL1, Pyr.run_atL2, Pyr.run_atL3, Pyr.run_atL4, Pyr.isi_str_n, Pyr.isi_str_b, Pyr.isi_str_i, Pyr.isi_str_s, Pyr.isi_str_l, Pyr.isi_str_t, Pyr.isi_str_d, Pyr.isi_int_n, Pyr.isi_int_b, Pyr.isi_int_i, Pyr.isi_int_s, Pyr.isi_int_l, Pyr.isi_int_t, Pyr.isi_int_d, Pyr.isi_bool_n, Pyr.isi_bool_b, Pyr.isi_bool_i, Pyr.isi_bool_s, Pyr.isi_bool_l, Pyr.isi_bool_t, Pyr.isi_bool_d, Pyr.isi_list_n, Pyr.isi_list_b, Pyr.isi_list_i, Pyr.isi_list_s, Pyr.isi_list_l, Pyr.isi_list_t, Pyr.isi_list_d, Pyr.isi_tuple_n, Pyr.isi_tuple_b, Pyr.isi_tuple_i, Pyr.isi_tuple_s, Pyr.isi_tuple_l, Pyr.isi_tuple_t, Pyr.isi_tuple_d, Pyr.isi_dict_n, Pyr.isi_dict_b, Pyr.isi_dict_i, Pyr.isi_dict_s, Pyr.isi_dict_l, Pyr.isi_dict_t, Pyr.isi_dict_d, Nat.reduceAdd, Int.cast_ofNat_Int, Int.natCast_zero, Int.natCast_one, Int.reduceEq, Int.reduceLT, Int.reduceLE, Int.reduceAdd, Int.reduceSub, Int.reduceMul, Int.reduceNeg, Int.reduceNe, Nat.zero_add, reduceIte, decide_eq_true_eq, beq_self_eq_true, eq_self, Bool.true_or, Bool.or_true, Bool.and_true, Bool.true_and, Bool.false_or, Bool.or_false, Bool.and_false, Bool.false_and, T__law_word_1, T__law_word_2, T__law_word_3, T__law_word_4, T__law_word_5, T__law_word_6, ha, hb, hd, l1, l2, q0, q1, hm]
    · by_cases q2 : a.fmod 6 = 2
      · refine ⟨⟨#[c1]⟩ ++ ⟨#[c2]⟩, strOk_app (one_okS h1) (one_okS h2), ?_⟩
        simp -implicitDefEqProofs (disch := omega) only [Pyr.sSeq, Pyr.sIf, Pyr.sSet, Pyr.sSetL, Pyr.sRet, Pyr.sRetL, Pyr.sRetN, Pyr.sRetO, Pyr.sDrop, Pyr.sApp, Pyr.sNext, Pyr.sFrz, Pyr.sSetT, Pyr.tgF, Pyr.setsF, Pyr.evP, Pyr.evL, Pyr.evT, Pyr.bare, Pyr.eC, Pyr.e1, Pyr.e2, Pyr.eN, Pyr.aC, Pyr.a0, Pyr.eIf, Pyr.eAnd, Pyr.eOr, Pyr.eNot, Pyr.eChain, Pyr.tE, Pyr.tNotR, Pyr.tAndR, Pyr.tOrR, Pyr.eCall, Pyr.lCall, Pyr.iF, Pyr.iF2, Pyr.lN, Pyr.lF, Pyr.eFs, Pyr.jC, Pyr.j0, Pyr.eIxV, Pyr.ownI, Pyr.lAdd, Pyr.sExt, Pyr.sPop, Pyr.trF, Pyr.trsF, Trs.len, Pyr.run_max2, Pyr.run_min2, Pyr.backD, Pyr.eSlice, Pyr.oNone, Pyr.oSome, Pyr.optI, Pyr.lSlice, Pyr.listD, eL, Pyr.eB, Pyr.oneD, Pyr.oneL, Pyr.itemsD, Pyr.outR, Pyr.ownD, Pyr.RV.d, Pyr.tupD, Pyr.run_mul, Pyr.run_mulS, Pyr.run_add, Pyr.run_sub, Pyr.run_addS, Pyr.run_mod, Pyr.run_fdiv, Pyr.run_lt, Pyr.run_le, Pyr.run_gt, Pyr.run_ge, Pyr.run_lenL, Pyr.run_lenT, Pyr.run_lenS, Pyr.run_int, Pyr.run_bool, Pyr.run_truB, Pyr.run_truL, Pyr.run_pur1, Pyr.run_frz1, Pyr.run_pSv, Pyr.run_pSo, Pyr.run_pSe, Pyr.run_fSv, Pyr.run_fSo, Pyr.run_fSe, Pyr.run_pur0, Pyr.run_frz0, Pyr.run_v0n, Pyr.run_v0b, Pyr.run_v0i, Pyr.run_v0s, Pyr.run_v0l, Pyr.run_v0t, Pyr.run_v0o, Pyr.run_vN, Pyr.run_vS, Pyr.run_bad, Pyr.run_exc, Pyr.run_map, Pyr.run_okL, List.length_cons, List.length_nil, Pyr.bind_ok, List.set_cons_zero, List.set_cons_succ, List.getElem?_cons_zero, List.getElem?_cons_succ, Pyr.eqD_int, Pyr.eqD_str, Pyr.neD_int, Pyr.neD_str, if_true, if_false, Bool.not_true, Bool.not_false, Bool.false_eq_true, decide_true, decide_false, Pyr.run_atT0, Pyr.run_atT1, Pyr.run_atT2, Pyr.run_atT3, Pyr.run_atT4, Pyr.run_atL0, Pyr.run_atL1, Pyr.run_atL2, Pyr.run_atL3, Pyr.run_atL4, Pyr.isi_str_n, Pyr.isi_str_b, Pyr.isi_str_i, Pyr.isi_str_s, Pyr.isi_str_l, Pyr.isi_str_t, Pyr.isi_str_d, Pyr.isi_int_n, Pyr.isi_int_b, Pyr.isi_int_i, Pyr.isi_int_s, Pyr.isi_int_l, Pyr.isi_int_t, Pyr.isi_int_d, Pyr.isi_bool_n, Pyr.isi_bool_b, Pyr.isi_bool_i, Pyr.isi_bool_s, Pyr.isi_bool_l, Pyr.isi_bool_t, Pyr.isi_bool_d, Pyr.isi_list_n, Pyr.isi_list_b, Pyr.isi_list_i, Pyr.isi_list_s, Pyr.isi_list_l, Pyr.isi_list_t, Pyr.isi_list_d, Pyr.isi_tuple_n, Pyr.isi_tuple_b, Pyr.isi_tuple_i, Pyr.isi_tuple_s, Pyr.isi_tuple_l, Pyr.isi_tuple_t, Pyr.isi_tuple_d, Pyr.isi_dict_n, Pyr.isi_dict_b, Pyr.isi_dict_i, Pyr.isi_dict_s, Pyr.isi_dict_l, Pyr.isi_dict_t, Pyr.isi_dict_d, Nat.reduceAdd, Int.cast_ofNat_Int, Int.natCast_zero, Int.natCast_one, Int.reduceEq, Int.reduceLT, Int.reduceLE, Int.reduceAdd, Int.reduceSub, Int.reduceMul, Int.reduceNeg, Int.reduceNe, Nat.zero_add, reduceIte, decide_eq_true_eq, beq_self_eq_true, eq_self, Bool.true_or, Bool.or_true, Bool.and_true, Bool.true_and, Bool.false_or, Bool.or_false, Bool.and_false, Bool.false_and, T__law_word_1, T__law_word_2, T__law_word_3, T__law_word_4, T__law_word_5, T__law_word_6, ha, hb, hd, l1, l2, q0, q1, q2]
      · refine ⟨⟨#[c1]⟩, one_okS h1, ?_⟩
        simp -implicitDefEqProofs (disch := omega) only [Pyr.sSeq, Pyr.sIf, Pyr.sSet, Pyr.sSetL, Pyr.sRet, Pyr.sRetL, Pyr.sRetN, Pyr.sRetO, Pyr.sDrop, Pyr.sApp, Pyr.sNext, Pyr.sFrz, Pyr.sSetT, Pyr.tgF, Pyr.setsF, Pyr.evP, Pyr.evL, Pyr.evT, Pyr.bare, Pyr.eC, Pyr.e1, Pyr.e2, Pyr.eN, Pyr.aC, Pyr.a0, Pyr.eIf, Pyr.eAnd, Pyr.eOr, Pyr.eNot, Pyr.eChain, Pyr.tE, Pyr.tNotR, Pyr.tAndR, Pyr.tOrR, Pyr.eCall, Pyr.lCall, Pyr.iF, Pyr.iF2, Pyr.lN, Pyr.lF, Pyr.eFs, Pyr.jC, Pyr.j0, Pyr.eIxV, Pyr.ownI, Pyr.lAdd, Pyr.sExt, Pyr.sPop, Pyr.trF, Pyr.trsF, Trs.len, Pyr.run_max2, Pyr.run_min2, Pyr.backD, Pyr.eSlice, Pyr.oNone, Pyr.oSome, Pyr.optI, Pyr.lSlice, Pyr.listD, eL, Pyr.eB, Pyr.oneD, Pyr.oneL, Pyr.itemsD, Pyr.outR, Pyr.ownD, Pyr.RV.d, Pyr.tupD, Pyr.run_mul, Pyr.run_mulS, Pyr.run_add, Pyr.run_sub, Pyr.run_addS, Pyr.run_mod, Pyr.run_fdiv, Pyr.run_lt, Pyr.run_le, Pyr.run_gt, Pyr.run_ge, Pyr.run_lenL, Pyr.run_lenT, Pyr.run_lenS, Pyr.run_int, Pyr.run_bool, Pyr.run_truB, Pyr.run_truL, Pyr.run_pur1, Pyr.run_frz1, Pyr.run_pSv, Pyr.run_pSo, Pyr.run_pSe, Pyr.run_fSv, Pyr.run_fSo, Pyr.run_fSe, Pyr.run_pur0, Pyr.run_frz0, Pyr.run_v0n, Pyr.run_v0b, Pyr.run_v0i, Pyr.run_v0s, Pyr.run_v0l, Pyr.run_v0t, Pyr.run_v0o, Pyr.run_vN, Pyr.run_vS, Pyr.run_bad, Pyr.run_exc, Pyr.run_map, Pyr.run_okL, List.length_cons, List.length_nil, Pyr.bind_ok, List.set_cons_zero, List.set_cons_succ, List.getElem?_cons_zero, List.getElem?_cons_succ, Pyr.eqD_int, Pyr.eqD_str, Pyr.neD_int, Pyr.neD_str, if_true, if_false, Bool.not_true, Bool.not_false, Bool.false_eq_true, decide_true, decide_false, Pyr.run_atT0, Pyr.run_atT1, Pyr.run_atT2, Pyr.run_atT3, Pyr.run_atT4, Pyr.run_atL0, Pyr.run_atL1, Pyr.run_atL2, Pyr.run_atL3, Pyr.run_atL4, Pyr.isi_str_n, Pyr.isi_str_b, Pyr.isi_str_i, Pyr.isi_str_s, Pyr.isi_str_l, Pyr.isi_str_t, Pyr.isi_str_d, Pyr.isi_int_n, Pyr.isi_int_b, Pyr.isi_int_i, Pyr.isi_int_s, Pyr.isi_int_l, Pyr.isi_int_t, Pyr.isi_int_d, Pyr.isi_bool_n, Pyr.isi_bool_b, Pyr.isi_bool_i, Pyr.isi_bool_s, Pyr.isi_bool_l, Pyr.isi_bool_t, Pyr.isi_bool_d, Pyr.isi_list_n, Pyr.isi_list_b, Pyr.isi_list_i, Pyr.isi_list_s, Pyr.isi_list_l, Pyr.isi_list_t, Pyr.isi_list_d, Pyr.isi_tuple_n, Pyr.isi_tuple_b, Pyr.isi_tuple_i, Pyr.isi_tuple_s, Pyr.isi_tuple_l, Pyr.isi_tuple_t, Pyr.isi_tuple_d, Pyr.isi_dict_n, Pyr.isi_dict_b, Pyr.isi_dict_i, Pyr.isi_dict_s, Pyr.isi_dict_l, Pyr.isi_dict_t, Pyr.isi_dict_d, Nat.reduceAdd, Int.cast_ofNat_Int, Int.natCast_zero, Int.natCast_one, Int.reduceEq, Int.reduceLT, Int.reduceLE, Int.reduceAdd, Int.reduceSub, Int.reduceMul, Int.reduceNeg, Int.reduceNe, Nat.zero_add, reduceIte, decide_eq_true_eq, beq_self_eq_true, eq_self, Bool.true_or, Bool.or_true, Bool.and_true, Bool.true_and, Bool.false_or, Bool.or_false, Bool.and_false, Bool.false_and, T__law_word_1, T__law_word_2, T__law_word_3, T__law_word_4, T__law_word_5, T__law_word_6, ha, hb, hd, l1, l2, q0, q1, q2]
/-! the law -/
abbrev okU (U : List Str) : Prop := ∀ u ∈ U, PyData.strOk u = true
theorem okd_texts {U : List Str} (h : okU U) : okd (.list (U.map .str)) = true := by
  show okDs 59 (U.map .str) = true
  refine okDs_all _ fun d hd => ?_
  obtain ⟨x, hx, rfl⟩ := List.mem_map.mp hd
  exact h x hx
theorem in_texts {U : List Str} {y : Str} (h : okU U) (hy : PyData.strOk y = true) : inD (.str y) (.list (U.map .str)) = .ok (.bool (decide (y ∈ U))) := by
  show (if okd (.str y) && okd (.list (U.map .str)) then Res.ok (PyData.bool ((U.map PyData.str).any fun z => PyData.eqv z (.str y))) else .bad) = _
  rw [okd_texts h, show okd (.str y) = true from hy, any_str]
  rfl
theorem notIn_texts {U : List Str} {y : Str} (h : okU U) (hy : PyData.strOk y = true) : notInD (.str y) (.list (U.map .str)) = .ok (.bool (!decide (y ∈ U))) := by
  unfold notInD
  rw [in_texts h hy]
  rfl
theorem draw_loop (sc : Sl) (vs : List Int) (hv : 300 ≤ vs.length) : ∀ (m lo : Nat) (U : List Str) (s3 s8 : Sl), okU U → U.length ≤ lo → lo + m ≤ 8 → ∃ (U' : List Str) (s3' s8' : Sl), okU U' ∧ U'.length ≤ 8 ∧
    forF (Tg.nm 3) B_law_0 (upto lo m) [sc, .val (.list (vs.map .int)), .own (.lst (U.map .str)), s3, .emp, .emp, .emp, .emp, s8, .emp] = .ok (.next [sc, .val (.list (vs.map .int)), .own (.lst (U'.map .str)), s3', .emp, .emp, .emp, .emp, s8', .emp])
  | 0, lo, U, s3, s8, h, h1, h2 => ⟨U, s3, s8, h, by omega, rfl⟩
  | m + 1, lo, U, s3, s8, h, h1, h2 => by
    obtain ⟨y, hy, hw⟩ := word_run vs (3 + 3 * lo) (by omega)
    obtain ⟨a, ha⟩ := at_pool (vs := vs) (40 + lo) (40 + (lo : Int)) (by omega) (by omega)
    obtain ⟨b, hb⟩ := at_pool (vs := vs) (41 + lo) (41 + (lo : Int)) (by omega) (by omega)
    obtain ⟨j, ej, hj⟩ := fmod_nat b (m := 12) (by decide)
    have ej : b.fmod 12 = (j : Int) := ej
    have hs : strD (.int (b.fmod 12)) = .ok (.str (dS j)) := by rw [ej]; exact strD_n (by omega)
    have hsl := dS_len (n := j) (by omega)
    have hal : ("a" : Str).length = 1 := by decide +kernel
    have e3 : (3 : Int) + 3 * (lo : Int) = ((3 + 3 * lo : Nat) : Int) := by omega
    obtain ⟨z, hz, hzs⟩ : ∃ z : Str, PyData.strOk z = true ∧ ∀ t : Frm → Res Fl, sSeq (sSet 8 (eCall m__law_word (aC (eVar 1) (aC (Pyr.e2 addD (eC (.int 3)) (Pyr.e2 mul2D (eC (.int 3)) (eVar 3))) a0)))) (sSeq (sIf (tE boolD (Pyr.e2 eqD (Pyr.e2 modD (eN (oneD int2D) (aC (Pyr.e2 atD (eVar 1) (Pyr.e2 addD (eC (.int 40)) (eVar 3))) a0)) (eC (.int 2))) (eC (.int 0)))) (sSet 8 (Pyr.e2 addD (eC (.str "a")) (eN (oneD strD) (aC (Pyr.e2 modD (eN (oneD int2D) (aC (Pyr.e2 atD (eVar 1) (Pyr.e2 addD (eC (.int 41)) (eVar 3))) a0)) (eC (.int 12))) a0)))) sNext) t) [sc, .val (.list (vs.map .int)), .own (.lst (U.map .str)), .val (.int (lo : Int)), .emp, .emp, .emp, .emp, s8, .emp] = t [sc, .val (.list (vs.map .int)), .own (.lst (U.map .str)), .val (.int (lo : Int)), .emp, .emp, .emp, .emp, .val (.str z), .emp] := by
      by_cases q : a.fmod 2 = 0
      · refine ⟨("a" : Str) ++ dS j, dW_ok (n := j) (by omega), fun t => ?_⟩
        simp -implicitDefEqProofs (disch := omega) only [Pyr.sSeq, Pyr.sIf, Pyr.sSet, Pyr.sSetL, Pyr.sRet, Pyr.sRetL, Pyr.sRetN, Pyr.sRetO, Pyr.sDrop, Pyr.sApp, Pyr.sNext, Pyr.sFrz, Pyr.sSetT, Pyr.tgF, Pyr.setsF, Pyr.evP, Pyr.evL, Pyr.evT, Pyr.bare, Pyr.eC, Pyr.e1, Pyr.e2, Pyr.eN, Pyr.aC, Pyr.a0, Pyr.eIf, Pyr.eAnd, Pyr.eOr, Pyr.eNot, Pyr.eChain, Pyr.tE, Pyr.tNotR, Pyr.tAndR, Pyr.tOrR, Pyr.eCall, Pyr.lCall, Pyr.iF, Pyr.iF2, Pyr.lN, Pyr.lF, Pyr.eFs, Pyr.jC, Pyr.j0, Pyr.eIxV, Pyr.ownI, Pyr.lAdd, Pyr.sExt, Pyr.sPop, Pyr.trF, Pyr.trsF, Trs.len, Pyr.run_max2, Pyr.run_min2, Pyr.backD, Pyr.eSlice, Pyr.oNone, Pyr.oSome, Pyr.optI, Pyr.lSlice, Pyr.listD, eL, Pyr.eB, Pyr.oneD, Pyr.oneL, Pyr.itemsD, Pyr.outR, Pyr.ownD, Pyr.RV.d, Pyr.tupD, Pyr.run_mul, Pyr.run_mulS, Pyr.run_add, Pyr.run_sub, Pyr.run_addS, Pyr.run_mod, Pyr.run_fdiv, Pyr.run_lt, Pyr.run_le, Pyr.run_gt, Pyr.run_ge, Pyr.run_lenL, Pyr.run_lenT, Pyr.run_lenS, Pyr.run_int, Pyr.run_bool, Pyr.run_truB, Pyr.run_truL, Pyr.run_pur1, Pyr.run_frz1, Pyr.run_pSv, Pyr.run_pSo, Pyr.run_pSe, Pyr.run_fSv, Pyr.run_fSo, Pyr.run_fSe, Pyr.run_pur0, Pyr.run_frz0, Pyr.run_v0n, Pyr.run_v0b, Pyr.run_v0i, Pyr.run_v0s, Pyr.run_v0l, Pyr.run_v0t, Pyr.run_v0o, Pyr.run_vN, Pyr.run_vS, Pyr.run_bad, Pyr.run_exc, Pyr.run_map, Pyr.run_okL, List.length_cons, List.length_nil, Pyr.bind_ok, List.set_cons_zero, List.set_cons_succ, List.getElem?_cons_zero, List.getElem?_cons_succ, Pyr.eqD_int, Pyr.eqD_str, Pyr.neD_int, Pyr.neD_str, if_true, if_false, Bool.not_true, Bool.not_false, Bool.false_eq_true, decide_true, decide_false, Pyr.run_atT0, Pyr.run_atT1, Pyr.run_atT2, Pyr.run_atT3, Pyr.run_atT4, Pyr.run_atL0, Pyr.run_atL1, Pyr.run_atL2, Pyr.run_atL3, Pyr.run_atL4, Pyr.isi_str_n, Pyr.isi_str_b, Pyr.isi_str_i, Pyr.isi_str_s, Pyr.isi_str_l, Pyr.isi_str_t, Pyr.isi_str_d, Pyr.isi_int_n, Pyr.isi_int_b, Pyr.isi_int_i, Pyr.isi_int_s, Pyr.isi_int_l, Pyr.isi_int_t, Pyr.isi_int_d, Pyr.isi_bool_n, Pyr.isi_bool_b, Pyr.isi_bool_i, Pyr.isi_bool_s, Pyr.isi_bool_l, Pyr.isi_bool_t, Pyr.isi_bool_d, Pyr.isi_list_n, Pyr.isi_list_b, Pyr.isi_list_i, Pyr.isi_list_s, Pyr.isi_list_l, Pyr.isi_list_t, Pyr.isi_list_d, Pyr.isi_tuple_n, Pyr.isi_tuple_b, Pyr.isi_tuple_i, Pyr.isi_tuple_s, Pyr.isi_tuple_l, Pyr.isi_tuple_t, Pyr.isi_tuple_d, Pyr.isi_dict_n, Pyr.isi_dict_b, Pyr.isi_dict_i, Pyr.isi_dict_s, Pyr.isi_dict_l, Pyr.isi_dict_t, Pyr.isi_dict_d, Nat.reduceAdd, Int.cast_ofNat_Int, Int.natCast_zero, Int.natCast_one, Int.reduceEq, Int.reduceLT, Int.reduceLE, Int.reduceAdd, Int.reduceSub, Int.reduceMul, Int.reduceNeg, Int.reduceNe, Nat.zero_add, reduceIte, decide_eq_true_eq, beq_self_eq_true, eq_self, Bool.true_or, Bool.or_true, Bool.and_true, Bool.true_and, Bool.false_or, Bool.or_false, Bool.and_false, Bool.false_and, e3, hw, ha, hb, hs, q]
      · refine ⟨y, hy, fun t => ?_⟩
        simp -implicitDefEqProofs (disch := omega) only [Pyr.sSeq, Pyr.sIf, Pyr.sSet, Pyr.sSetL, Pyr.sRet, Pyr.sRetL, Pyr.sRetN, Pyr.sRetO, Pyr.sDrop, Pyr.sApp, Pyr.sNext, Pyr.sFrz, Pyr.sSetT, Pyr.tgF, Pyr.setsF, Pyr.evP, Pyr.evL, Pyr.evT, Pyr.bare, Pyr.eC, Pyr.e1, Pyr.e2, Pyr.eN, Pyr.aC, Pyr.a0, Pyr.eIf, Pyr.eAnd, Pyr.eOr, Pyr.eNot, Pyr.eChain, Pyr.tE, Pyr.tNotR, Pyr.tAndR, Pyr.tOrR, Pyr.eCall, Pyr.lCall, Pyr.iF, Pyr.iF2, Pyr.lN, Pyr.lF, Pyr.eFs, Pyr.jC, Pyr.j0, Pyr.eIxV, Pyr.ownI, Pyr.lAdd, Pyr.sExt, Pyr.sPop, Pyr.trF, Pyr.trsF, Trs.len, Pyr.run_max2, Pyr.run_min2, Pyr.backD, Pyr.eSlice, Pyr.oNone, Pyr.oSome, Pyr.optI, Pyr.lSlice, Pyr.listD, eL, Pyr.eB, Pyr.oneD, Pyr.oneL, Pyr.itemsD, Pyr.outR, Pyr.ownD, Pyr.RV.d, Pyr.tupD, Pyr.run_mul, Pyr.run_mulS, Pyr.run_add, Pyr.run_sub, Pyr.run_addS, Pyr.run_mod, Pyr.run_fdiv, Pyr.run_lt, Pyr.run_le, Pyr.run_gt, Pyr.run_ge, Pyr.run_lenL, Pyr.run_lenT, Pyr.run_lenS, Pyr.run_int, Pyr.run_bool, Pyr.run_truB, Pyr.run_truL, Pyr.run_pur1, Pyr.run_frz1, Pyr.run_pSv, Pyr.run_pSo, Pyr.run_pSe, Pyr.run_fSv, Pyr.run_fSo, Pyr.run_fSe, Pyr.run_pur0, Pyr.run_frz0, Pyr.run_v0n, Pyr.run_v0b, Pyr.run_v0i, Pyr.run_v0s, Pyr.run_v0l, Pyr.run_v0t, Pyr.run_v0o, Pyr.run_vN, Pyr.run_vS, Pyr.run_bad, Pyr.run_exc, Pyr.run_map, Pyr.run_okL, List.length_cons, List.length_nil, Pyr.bind_ok, List.set_cons_zero, List.set_cons_succ, List.getElem?_cons_zero, List.getElem?_cons_succ, Pyr.eqD_int, Pyr.eqD_str, Pyr.neD_int, Pyr.neD_str, if_true, if_false, Bool.not_true, Bool.not_false, Bool.false_eq_true, decide_true, decide_false, Pyr.run_atT0, Pyr.run_atT1, Pyr.run_atT2, Pyr.run_atT3, Pyr.run_atT4, Pyr.run_atL0, Pyr.run_atL1, Pyr.run_atL2, Pyr.run_atL3, Pyr.run_atL4, Pyr.isi_str_n, Pyr.isi_str_b, Pyr.isi_str_i, Pyr.isi_str_s, Pyr.isi_str_l, Pyr.isi_str_t, Pyr.isi_str_d, Pyr.isi_int_n, Pyr.isi_int_b, Pyr.isi_int_i, Pyr.isi_int_s, Pyr.isi_int_l, Pyr.isi_int_t, Pyr.isi_int_d, Pyr.isi_bool_n, Pyr.isi_bool_b, Pyr.isi_bool_i, Pyr.isi_bool_s, Pyr.isi_bool_l, Pyr.isi_bool_t, Pyr.isi_bool_d, Pyr.isi_list_n, Pyr.isi_list_b, Pyr.isi_list_i, Pyr.isi_list_s, Pyr.isi_list_l, Pyr.isi_list_t, Pyr.isi_list_d, Pyr.isi_tuple_n, Pyr.isi_tuple_b, Pyr.isi_tuple_i, Pyr.isi_tuple_s, Pyr.isi_tuple_l, Pyr.isi_tuple_t, Pyr.isi_tuple_d, Pyr.isi_dict_n, Pyr.isi_dict_b, Pyr.isi_dict_i, Pyr.isi_dict_s, Pyr.isi_dict_l, Pyr.isi_dict_t, Pyr.isi_dict_d, Nat.reduceAdd, Int.cast_ofNat_Int, Int.natCast_zero, Int.natCast_one, Int.reduceEq, Int.reduceLT, Int.reduceLE, Int.reduceAdd, Int.reduceSub, Int.reduceMul, Int.reduceNeg, Int.reduceNe, Nat.zero_add, reduceIte, decide_eq_true_eq, beq_self_eq_true, eq_self, Bool.true_or, Bool.or_true, Bool.and_true, Bool.true_and, Bool.false_or, Bool.or_false, Bool.and_false, Bool.false_and, e3, hw, ha, hb, hs, q]
    have hin := notIn_texts h hz
    by_cases q : z ∈ U
    · obtain ⟨U', s3', s8', r1, r2, r3⟩ := draw_loop sc vs hv m (lo + 1) U (.val (.int (lo : Int))) (.val (.str z)) h (by omega) (by omega)
      refine ⟨U', s3', s8', r1, r2, ?_⟩
      rw [← r3]
      refine forF_next (ρ1 := [sc, .val (.list (vs.map .int)), .own (.lst (U.map .str)), .val (.int (lo : Int)), .emp, .emp, .emp, .emp, s8, .emp]) rfl ?_
      unfold B_law_0
      rw [hzs]
      simp -implicitDefEqProofs (disch := omega) only [Pyr.sSeq, Pyr.sIf, Pyr.sSet, Pyr.sSetL, Pyr.sRet, Pyr.sRetL, Pyr.sRetN, Pyr.sRetO, Pyr.sDrop, Pyr.sApp, Pyr.sNext, Pyr.sFrz, Pyr.sSetT, Pyr.tgF, Pyr.setsF, Pyr.evP, Pyr.evL, Pyr.evT, Pyr.bare, Pyr.eC, Pyr.e1, Pyr.e2, Pyr.eN, Pyr.aC, Pyr.a0, Pyr.eIf, Pyr.eAnd, Pyr.eOr, Pyr.eNot, Pyr.eChain, Pyr.tE, Pyr.tNotR, Pyr.tAndR, Pyr.tOrR, Pyr.eCall, Pyr.lCall, Pyr.iF, Pyr.iF2, Pyr.lN, Pyr.lF, Pyr.eFs, Pyr.jC, Pyr.j0, Pyr.eIxV, Pyr.ownI, Pyr.lAdd, Pyr.sExt, Pyr.sPop, Pyr.trF, Pyr.trsF, Trs.len, Pyr.run_max2, Pyr.run_min2, Pyr.backD, Pyr.eSlice, Pyr.oNone, Pyr.oSome, Pyr.optI, Pyr.lSlice, Pyr.listD, eL, Pyr.eB, Pyr.oneD, Pyr.oneL, Pyr.itemsD, Pyr.outR, Pyr.ownD, Pyr.RV.d, Pyr.tupD, Pyr.run_mul, Pyr.run_mulS, Pyr.run_add, Pyr.run_sub, Pyr.run_addS, Pyr.run_mod, Pyr.run_fdiv, Pyr.run_lt, Pyr.run_le, Pyr.run_gt, Pyr.run_ge, Pyr.run_lenL, Pyr.run_lenT, Pyr.run_lenS, Pyr.run_int, Pyr.run_bool, Pyr.run_truB, Pyr.run_truL, Pyr.run_pur1, Pyr.run_frz1, Pyr.run_pSv, Pyr.run_pSo, Pyr.run_pSe, Pyr.run_fSv, Pyr.run_fSo, Pyr.run_fSe, Pyr.run_pur0, Pyr.run_frz0, Pyr.run_v0n, Pyr.run_v0b, Pyr.run_v0i, Pyr.run_v0s, Pyr.run_v0l, Pyr.run_v0t, Pyr.run_v0o, Pyr.run_vN, Pyr.run_vS, Pyr.run_bad, Pyr.run_exc, Pyr.run_map, Pyr.run_okL, List.length_cons, List.length_nil, Pyr.bind_ok, List.set_cons_zero, List.set_cons_succ, List.getElem?_cons_zero, List.getElem?_cons_succ, Pyr.eqD_int, Pyr.eqD_str, Pyr.neD_int, Pyr.neD_str, if_true, if_false, Bool.not_true, Bool.not_false, Bool.false_eq_true, decide_true, decide_false, Pyr.run_atT0, Pyr.run_atT1, Pyr.run_atT2, Pyr.run_atT3, Pyr.run_atT4, Pyr.run_atL0, Pyr.run_atL1, Pyr.run_atL2, Pyr.run_atL3, Pyr.run_atL4, Pyr.isi_str_n, Pyr.isi_str_b, Pyr.isi_str_i, Pyr.isi_str_s, Pyr.isi_str_l, Pyr.isi_str_t, Pyr.isi_str_d, Pyr.isi_int_n, Pyr.isi_int_b, Pyr.isi_int_i, Pyr.isi_int_s, Pyr.isi_int_l, Pyr.isi_int_t, Pyr.isi_int_d, Pyr.isi_bool_n, Pyr.isi_bool_b, Pyr.isi_bool_i, Pyr.isi_bool_s, Pyr.isi_bool_l, Pyr.isi_bool_t, Pyr.isi_bool_d, Pyr.isi_list_n, Pyr.isi_list_b, Pyr.isi_list_i, Pyr.isi_list_s, Pyr.isi_list_l, Pyr.isi_list_t, Pyr.isi_list_d, Pyr.isi_tuple_n, Pyr.isi_tuple_b, Pyr.isi_tuple_i, Pyr.isi_tuple_s, Pyr.isi_tuple_l, Pyr.isi_tuple_t, Pyr.isi_tuple_d, Pyr.isi_dict_n, Pyr.isi_dict_b, Pyr.isi_dict_i, Pyr.isi_dict_s, Pyr.isi_dict_l, Pyr.isi_dict_t, Pyr.isi_dict_d, Nat.reduceAdd, Int.cast_ofNat_Int, Int.natCast_zero, Int.natCast_one, Int.reduceEq, Int.reduceLT, Int.reduceLE, Int.reduceAdd, Int.reduceSub, Int.reduceMul, Int.reduceNeg, Int.reduceNe, Nat.zero_add, reduceIte, decide_eq_true_eq, beq_self_eq_true, eq_self, Bool.true_or, Bool.or_true, Bool.and_true, Bool.true_and, Bool.false_or, Bool.or_false, Bool.and_false, Bool.false_and, hin, q]
    · obtain ⟨U', s3', s8', r1, r2, r3⟩ := draw_loop sc vs hv m (lo + 1) (U ++ [z]) (.val (.int (lo : Int))) (.val (.str z)) (fun u hu => by
        rcases List.mem_append.mp hu with hu | hu
        · exact h u hu
        · rw [List.mem_singleton.mp hu]
          exact hz) (by rw [List.length_append, List.length_cons, List.length_nil]; omega) (by omega)
      refine ⟨U', s3', s8', r1, r2, ?_⟩
      rw [← r3]
      refine forF_next (ρ1 := [sc, .val (.list (vs.map .int)), .own (.lst (U.map .str)), .val (.int (lo : Int)), .emp, .emp, .emp, .emp, s8, .emp]) rfl ?_
      unfold B_law_0
      rw [hzs]
      simp -implicitDefEqProofs (disch := omega) only [Pyr.sSeq, Pyr.sIf, Pyr.sSet, Pyr.sSetL, Pyr.sRet, Pyr.sRetL, Pyr.sRetN, Pyr.sRetO, Pyr.sDrop, Pyr.sApp, Pyr.sNext, Pyr.sFrz, Pyr.sSetT, Pyr.tgF, Pyr.setsF, Pyr.evP, Pyr.evL, Pyr.evT, Pyr.bare, Pyr.eC, Pyr.e1, Pyr.e2, Pyr.eN, Pyr.aC, Pyr.a0, Pyr.eIf, Pyr.eAnd, Pyr.eOr, Pyr.eNot, Pyr.eChain, Pyr.tE, Pyr.tNotR, Pyr.tAndR, Pyr.tOrR, Pyr.eCall, Pyr.lCall, Pyr.iF, Pyr.iF2, Pyr.lN, Pyr.lF, Pyr.eFs, Pyr.jC, Pyr.j0, Pyr.eIxV, Pyr.ownI, Pyr.lAdd, Pyr.sExt, Pyr.sPop, Pyr.trF, Pyr.trsF, Trs.len, Pyr.run_max2, Pyr.run_min2, Pyr.backD, Pyr.eSlice, Pyr.oNone, Pyr.oSome, Pyr.optI, Pyr.lSlice, Pyr.listD, eL, Pyr.eB, Pyr.oneD, Pyr.oneL, Pyr.itemsD, Pyr.outR, Pyr.ownD, Pyr.RV.d, Pyr.tupD, Pyr.run_mul, Pyr.run_mulS, Pyr.run_add, Pyr.run_sub, Pyr.run_addS, Pyr.run_mod, Pyr.run_fdiv, Pyr.run_lt, Pyr.run_le, Pyr.run_gt, Pyr.run_ge, Pyr.run_lenL, Pyr.run_lenT, Pyr.run_lenS, Pyr.run_int, Pyr.run_bool, Pyr.run_truB, Pyr.run_truL, Pyr.run_pur1, Pyr.run_frz1, Pyr.run_pSv, Pyr.run_pSo, Pyr.run_pSe, Pyr.run_fSv, Pyr.run_fSo, Pyr.run_fSe, Pyr.run_pur0, Pyr.run_frz0, Pyr.run_v0n, Pyr.run_v0b, Pyr.run_v0i, Pyr.run_v0s, Pyr.run_v0l, Pyr.run_v0t, Pyr.run_v0o, Pyr.run_vN, Pyr.run_vS, Pyr.run_bad, Pyr.run_exc, Pyr.run_map, Pyr.run_okL, List.length_cons, List.length_nil, Pyr.bind_ok, List.set_cons_zero, List.set_cons_succ, List.getElem?_cons_zero, List.getElem?_cons_succ, Pyr.eqD_int, Pyr.eqD_str, Pyr.neD_int, Pyr.neD_str, if_true, if_false, Bool.not_true, Bool.not_false, Bool.false_eq_true, decide_true, decide_false, Pyr.run_atT0, Pyr.run_atT1, Pyr.run_atT2, Pyr.run_atT3, Pyr.run_atT4, Pyr.run_atL0, Pyr.run_atL1, Pyr.run_atL2, Pyr.run_atL3, Pyr.run_atL4, Pyr.isi_str_n, Pyr.isi_str_b, Pyr.isi_str_i, Pyr.isi_str_s, Pyr.isi_str_l, Pyr.isi_str_t, Pyr.isi_str_d, Pyr.isi_int_n, Pyr.isi_int_b, Pyr.isi_int_i, Pyr.isi_int_s, Pyr.isi_int_l, Pyr.isi_int_t, Pyr.isi_int_d, Pyr.isi_bool_n, Pyr.isi_bool_b, Pyr.isi_bool_i, Pyr.isi_bool_s, Pyr.isi_bool_l, Pyr.isi_bool_t, Pyr.isi_bool_d, Pyr.isi_list_n, Pyr.isi_list_b, Pyr.isi_list_i, Pyr.isi_list_s, Pyr.isi_list_l, Pyr.isi_list_t, Pyr.isi_list_d, Pyr.isi_tuple_n, Pyr.isi_tuple_b, Pyr.isi_tuple_i, Pyr.isi_tuple_s, Pyr.isi_tuple_l, Pyr.isi_tuple_t, Pyr.isi_tuple_d, Pyr.isi_dict_n, Pyr.isi_dict_b, Pyr.isi_dict_i, Pyr.isi_dict_s, Pyr.isi_dict_l, Pyr.isi_dict_t, Pyr.isi_dict_d, Nat.reduceAdd, Int.cast_ofNat_Int, Int.natCast_zero, Int.natCast_one, Int.reduceEq, Int.reduceLT, Int.reduceLE, Int.reduceAdd, Int.reduceSub, Int.reduceMul, Int.reduceNeg, Int.reduceNe, Nat.zero_add, reduceIte, decide_eq_true_eq, beq_self_eq_true, eq_self, Bool.true_or, Bool.or_true, Bool.and_true, Bool.true_and, Bool.false_or, Bool.or_false, Bool.and_false, Bool.false_and, hin, q, List.length_map, List.map_append, List.map_cons, List.map_nil]
theorem sort_texts {U : List Str} (h : okU U) (hU : U.length ≤ 8) : ∃ S : List Str, okU S ∧ S.length ≤ 8 ∧ sortL (.list (U.map .str)) = .ok (S.map .str) := by
  have texts : ∀ ds : List Pyr.D, (∀ d ∈ ds, ∃ x : Str, d = .str x ∧ PyData.strOk x = true) → ∃ S : List Str, ds = S.map .str ∧ okU S := fun ds => by
    induction ds with
    | nil => exact fun _ => ⟨[], rfl, fun u hu => absurd hu (by simp)⟩
    | cons d ds ih =>
      intro q
      obtain ⟨S, e, o⟩ := ih fun d hd => q d (List.mem_cons_of_mem _ hd)
      obtain ⟨x, rfl, hx⟩ := q d List.mem_cons_self
      refine ⟨x :: S, by rw [e]; rfl, fun u hu => ?_⟩
      rcases List.mem_cons.mp hu with rfl | hu
      · exact hx
      · exact o u hu
  obtain ⟨S, e, o⟩ := texts ((U.map PyData.str).mergeSort (PySem.W.dataLe false id)) fun d hd => by
    rw [List.mem_mergeSort] at hd
    obtain ⟨x, hx, rfl⟩ := List.mem_map.mp hd
    exact ⟨x, rfl, h x hx⟩
  have hl := congrArg List.length e
  rw [List.length_mergeSort, List.length_map, List.length_map] at hl
  refine ⟨S, o, by omega, ?_⟩
  have c : sortC (U.map PyData.str) = true := by
    have a1 : alikeB (U.map PyData.str) = true := by
      unfold alikeB
      simp only [List.all_eq_true, List.mem_map]
      rintro _ ⟨x, _, rfl⟩ _ ⟨y, _, rfl⟩
      rfl
    have a2 : sortableB (U.map PyData.str) = true := by
      unfold sortableB
      rw [Bool.or_eq_true]
      right
      simp only [List.all_eq_true, List.mem_map]
      rintro _ ⟨x, _, rfl⟩
      rfl
    have a3 : (U.map PyData.str).all (fun d => flatD d && decide (d.depth ≤ 12)) = true := by
      simp only [List.all_eq_true, List.mem_map]
      rintro _ ⟨x, _, rfl⟩
      simp [flatD, PyData.depth]
    unfold sortC
    rw [a1, a2, a3, decide_eq_true (show (U.map PyData.str).length ≤ LIM by rw [List.length_map]; show _ ≤ 100000; omega)]
    rfl
  show (if sortC (U.map PyData.str) then Res.ok ((U.map PyData.str).mergeSort (PySem.W.dataLe false id)) else .bad) = _
  rw [if_pos c, e]
abbrev LF (sc P : Sl) (S : List Str) (c : Nat) (A : List Pyr.D) (s7 s8 : Sl) (n : Nat) (k step : Sl) : Frm := [sc, P, .val (.list (S.map .str)), k, .val (.int (c : Int)), .val (.list A), .val (.int (n : Int)), s7, s8, step]
theorem nx_stay (U : List Str) {n : Nat} (h : dW n ∉ U) : ∀ m, nx U m n = n
  | 0 => rfl
  | m + 1 => if_neg h
theorem in_loop (sc P : Sl) (S : List Str) (hS : okU S) (c : Nat) (A : List Pyr.D) (s7 s8 k : Sl) : ∀ (m n : Nat) (lo : Int) (step : Sl), n + m < 200 → ∃ step', forF (Tg.nm 9) B_law_2 (upto lo m) (LF sc P S c A s7 s8 n k step) = .ok (.next (LF sc P S c A s7 s8 (nx S m n) k step'))
  | 0, n, lo, step, _ => ⟨step, rfl⟩
  | m + 1, n, lo, step, h => by
    have hsl := dS_len (n := n) (by omega)
    have hal : ("a" : Str).length = 1 := by decide +kernel
    have hs := strD_n (n := n) (by omega)
    have hin : inD (.str (("a" : Str) ++ dS n)) (.list (S.map .str)) = .ok (.bool (decide (dW n ∈ S))) := in_texts hS (dW_ok (n := n) (by omega))
    by_cases q : dW n ∈ S
    · obtain ⟨step', e⟩ := in_loop sc P S hS c A s7 s8 k m (n + 1) (lo + 1) (.val (.int lo)) (by omega)
      refine ⟨step', ?_⟩
      rw [show nx S (m + 1) n = nx S m (n + 1) from if_pos q, ← e]
      refine forF_next (ρ1 := LF sc P S c A s7 s8 n k (.val (.int lo))) rfl ?_
      unfold B_law_2
      simp -implicitDefEqProofs (disch := omega) only [Pyr.sSeq, Pyr.sIf, Pyr.sSet, Pyr.sSetL, Pyr.sRet, Pyr.sRetL, Pyr.sRetN, Pyr.sRetO, Pyr.sDrop, Pyr.sApp, Pyr.sNext, Pyr.sFrz, Pyr.sSetT, Pyr.tgF, Pyr.setsF, Pyr.evP, Pyr.evL, Pyr.evT, Pyr.bare, Pyr.eC, Pyr.e1, Pyr.e2, Pyr.eN, Pyr.aC, Pyr.a0, Pyr.eIf, Pyr.eAnd, Pyr.eOr, Pyr.eNot, Pyr.eChain, Pyr.tE, Pyr.tNotR, Pyr.tAndR, Pyr.tOrR, Pyr.eCall, Pyr.lCall, Pyr.iF, Pyr.iF2, Pyr.lN, Pyr.lF, Pyr.eFs, Pyr.jC, Pyr.j0, Pyr.eIxV, Pyr.ownI, Pyr.lAdd, Pyr.sExt, Pyr.sPop, Pyr.trF, Pyr.trsF, Trs.len, Pyr.run_max2, Pyr.run_min2, Pyr.backD, Pyr.eSlice, Pyr.oNone, Pyr.oSome, Pyr.optI, Pyr.lSlice, Pyr.listD, eL, Pyr.eB, Pyr.oneD, Pyr.oneL, Pyr.itemsD, Pyr.outR, Pyr.ownD, Pyr.RV.d, Pyr.tupD, Pyr.run_mul, Pyr.run_mulS, Pyr.run_add, Pyr.run_sub, Pyr.run_addS, Pyr.run_mod, Pyr.run_fdiv, Pyr.run_lt, Pyr.run_le, Pyr.run_gt, Pyr.run_ge, Pyr.run_lenL, Pyr.run_lenT, Pyr.run_lenS, Pyr.run_int, Pyr.run_bool, Pyr.run_truB, Pyr.run_truL, Pyr.run_pur1, Pyr.run_frz1, Pyr.run_pSv, Pyr.run_pSo, Pyr.run_pSe, Pyr.run_fSv, Pyr.run_fSo, Pyr.run_fSe, Pyr.run_pur0, Pyr.run_frz0, Pyr.run_v0n, Pyr.run_v0b, Pyr.run_v0i, Pyr.run_v0s, Pyr.run_v0l, Pyr.run_v0t, Pyr.run_v0o, Pyr.run_vN, Pyr.run_vS, Pyr.run_bad, Pyr.run_exc, Pyr.run_map, Pyr.run_okL, List.length_cons, List.length_nil, Pyr.bind_ok, List.set_cons_zero, List.set_cons_succ, List.getElem?_cons_zero, List.getElem?_cons_succ, Pyr.eqD_int, Pyr.eqD_str, Pyr.neD_int, Pyr.neD_str, if_true, if_false, Bool.not_true, Bool.not_false, Bool.false_eq_true, decide_true, decide_false, Pyr.run_atT0, Pyr.run_atT1, Pyr.run_atT2, Pyr.run_atT3, Pyr.run_atT4, Pyr.run_atL0, Pyr.run_atL1, Pyr.run_atL2, Pyr.run_atL3, Pyr.run_atL4, Pyr.isi_str_n, Pyr.isi_str_b, Pyr.isi_str_i, Pyr.isi_str_s, Pyr.isi_str_l, Pyr.isi_str_t, Pyr.isi_str_d, Pyr.isi_int_n, Pyr.isi_int_b, Pyr.isi_int_i, Pyr.isi_int_s, Pyr.isi_int_l, Pyr.isi_int_t, Pyr.isi_int_d, Pyr.isi_bool_n, Pyr.isi_bool_b, Pyr.isi_bool_i, Pyr.isi_bool_s, Pyr.isi_bool_l, Pyr.isi_bool_t, Pyr.isi_bool_d, Pyr.isi_list_n, Pyr.isi_list_b, Pyr.isi_list_i, Pyr.isi_list_s, Pyr.isi_list_l, Pyr.isi_list_t, Pyr.isi_list_d, Pyr.isi_tuple_n, Pyr.isi_tuple_b, Pyr.isi_tuple_i, Pyr.isi_tuple_s, Pyr.isi_tuple_l, Pyr.isi_tuple_t, Pyr.isi_tuple_d, Pyr.isi_dict_n, Pyr.isi_dict_b, Pyr.isi_dict_i, Pyr.isi_dict_s, Pyr.isi_dict_l, Pyr.isi_dict_t, Pyr.isi_dict_d, Nat.reduceAdd, Int.cast_ofNat_Int, Int.natCast_zero, Int.natCast_one, Int.reduceEq, Int.reduceLT, Int.reduceLE, Int.reduceAdd, Int.reduceSub, Int.reduceMul, Int.reduceNeg, Int.reduceNe, Nat.zero_add, reduceIte, decide_eq_true_eq, beq_self_eq_true, eq_self, Bool.true_or, Bool.or_true, Bool.and_true, Bool.true_and, Bool.false_or, Bool.or_false, Bool.and_false, Bool.false_and, hs, hin, q]
      rfl
    · obtain ⟨step', e⟩ := in_loop sc P S hS c A s7 s8 k m n (lo + 1) (.val (.int lo)) (by omega)
      refine ⟨step', ?_⟩
      rw [nx_stay S q] at e
      rw [show nx S (m + 1) n = n from if_neg q, ← e]
      refine forF_next (ρ1 := LF sc P S c A s7 s8 n k (.val (.int lo))) rfl ?_
      unfold B_law_2
      simp -implicitDefEqProofs (disch := omega) only [Pyr.sSeq, Pyr.sIf, Pyr.sSet, Pyr.sSetL, Pyr.sRet, Pyr.sRetL, Pyr.sRetN, Pyr.sRetO, Pyr.sDrop, Pyr.sApp, Pyr.sNext, Pyr.sFrz, Pyr.sSetT, Pyr.tgF, Pyr.setsF, Pyr.evP, Pyr.evL, Pyr.evT, Pyr.bare, Pyr.eC, Pyr.e1, Pyr.e2, Pyr.eN, Pyr.aC, Pyr.a0, Pyr.eIf, Pyr.eAnd, Pyr.eOr, Pyr.eNot, Pyr.eChain, Pyr.tE, Pyr.tNotR, Pyr.tAndR, Pyr.tOrR, Pyr.eCall, Pyr.lCall, Pyr.iF, Pyr.iF2, Pyr.lN, Pyr.lF, Pyr.eFs, Pyr.jC, Pyr.j0, Pyr.eIxV, Pyr.ownI, Pyr.lAdd, Pyr.sExt, Pyr.sPop, Pyr.trF, Pyr.trsF, Trs.len, Pyr.run_max2, Pyr.run_min2, Pyr.backD, Pyr.eSlice, Pyr.oNone, Pyr.oSome, Pyr.optI, Pyr.lSlice, Pyr.listD, eL, Pyr.eB, Pyr.oneD, Pyr.oneL, Pyr.itemsD, Pyr.outR, Pyr.ownD, Pyr.RV.d, Pyr.tupD, Pyr.run_mul, Pyr.run_mulS, Pyr.run_add, Pyr.run_sub, Pyr.run_addS, Pyr.run_mod, Pyr.run_fdiv, Pyr.run_lt, Pyr.run_le, Pyr.run_gt, Pyr.run_ge, Pyr.run_lenL, Pyr.run_lenT, Pyr.run_lenS, Pyr.run_int, Pyr.run_bool, Pyr.run_truB, Pyr.run_truL, Pyr.run_pur1, Pyr.run_frz1, Pyr.run_pSv, Pyr.run_pSo, Pyr.run_pSe, Pyr.run_fSv, Pyr.run_fSo, Pyr.run_fSe, Pyr.run_pur0, Pyr.run_frz0, Pyr.run_v0n, Pyr.run_v0b, Pyr.run_v0i, Pyr.run_v0s, Pyr.run_v0l, Pyr.run_v0t, Pyr.run_v0o, Pyr.run_vN, Pyr.run_vS, Pyr.run_bad, Pyr.run_exc, Pyr.run_map, Pyr.run_okL, List.length_cons, List.length_nil, Pyr.bind_ok, List.set_cons_zero, List.set_cons_succ, List.getElem?_cons_zero, List.getElem?_cons_succ, Pyr.eqD_int, Pyr.eqD_str, Pyr.neD_int, Pyr.neD_str, if_true, if_false, Bool.not_true, Bool.not_false, Bool.false_eq_true, decide_true, decide_false, Pyr.run_atT0, Pyr.run_atT1, Pyr.run_atT2, Pyr.run_atT3, Pyr.run_atT4, Pyr.run_atL0, Pyr.run_atL1, Pyr.run_atL2, Pyr.run_atL3, Pyr.run_atL4, Pyr.isi_str_n, Pyr.isi_str_b, Pyr.isi_str_i, Pyr.isi_str_s, Pyr.isi_str_l, Pyr.isi_str_t, Pyr.isi_str_d, Pyr.isi_int_n, Pyr.isi_int_b, Pyr.isi_int_i, Pyr.isi_int_s, Pyr.isi_int_l, Pyr.isi_int_t, Pyr.isi_int_d, Pyr.isi_bool_n, Pyr.isi_bool_b, Pyr.isi_bool_i, Pyr.isi_bool_s, Pyr.isi_bool_l, Pyr.isi_bool_t, Pyr.isi_bool_d, Pyr.isi_list_n, Pyr.isi_list_b, Pyr.isi_list_i, Pyr.isi_list_s, Pyr.isi_list_l, Pyr.isi_list_t, Pyr.isi_list_d, Pyr.isi_tuple_n, Pyr.isi_tuple_b, Pyr.isi_tuple_i, Pyr.isi_tuple_s, Pyr.isi_tuple_l, Pyr.isi_tuple_t, Pyr.isi_tuple_d, Pyr.isi_dict_n, Pyr.isi_dict_b, Pyr.isi_dict_i, Pyr.isi_dict_s, Pyr.isi_dict_l, Pyr.isi_dict_t, Pyr.isi_dict_d, Nat.reduceAdd, Int.cast_ofNat_Int, Int.natCast_zero, Int.natCast_one, Int.reduceEq, Int.reduceLT, Int.reduceLE, Int.reduceAdd, Int.reduceSub, Int.reduceMul, Int.reduceNeg, Int.reduceNe, Nat.zero_add, reduceIte, decide_eq_true_eq, beq_self_eq_true, eq_self, Bool.true_or, Bool.or_true, Bool.and_true, Bool.true_and, Bool.false_or, Bool.or_false, Bool.and_false, Bool.false_and, hs, hin, q]
abbrev outN (n : Nat) : Pyr.D := .str (dW n)
theorem out_loop (sc P : Sl) (S : List Str) (hS : okU S) (hl : S.length ≤ 8) (c : Nat) (A : List Pyr.D) (s7 s8 : Sl) : ∀ (m lo n : Nat) (pre : List Pyr.D) (k step : Sl), n + m * 9 ≤ 150 → A = pre ++ (nums S m n).map outN → pre.length = lo → ∃ n' k' step', forF (Tg.nm 3) B_law_1 (upto lo m) (LF sc P S c A s7 s8 n k step) = .ok (.next (LF sc P S c A s7 s8 n' k' step'))
  | 0, lo, n, pre, k, step, _, _, _ => ⟨n, k, step, rfl⟩
  | m + 1, lo, n, pre, k, step, h, hA, hp => by
    have b := nx_le S S.length n
    generalize hx : nx S S.length n = x at b
    obtain ⟨step1, e1⟩ := in_loop sc P S hS c A s7 s8 (.val (.int (lo : Int))) S.length n 0 step (by omega)
    rw [hx] at e1
    have hnums : nums S (m + 1) n = x :: nums S m (x + 1) := by rw [nums, hx]
    rw [hnums] at hA
    obtain ⟨n', k', step', e2⟩ := out_loop sc P S hS hl c A s7 s8 m (lo + 1) (x + 1) (pre ++ [outN x]) (.val (.int (lo : Int))) step1 (by omega) (by rw [hA, List.append_assoc]; rfl) (by rw [List.length_append, hp]; rfl)
    refine ⟨n', k', step', ?_⟩
    rw [← e2]
    have hsl := dS_len (n := x) (by omega)
    have hal : ("a" : Str).length = 1 := by decide +kernel
    have hs := strD_n (n := x) (by omega)
    have hat : atD (.list A) (.int (lo : Int)) = .ok (outN x) := at_list (by rw [hA, ← hp, List.map_cons, List.getElem?_append_right (Nat.le_refl _), Nat.sub_self]; rfl)
    have hr : r1D (.int ((S.length : Nat) : Int)) = .ok (upto 0 S.length) := r1D_nat (by show _ ≤ 100000; omega)
    have hw : ("a" : Str) ++ dS x = dW x := rfl
    refine forF_next (ρ1 := LF sc P S c A s7 s8 n (.val (.int (lo : Int))) step) rfl ?_
    unfold B_law_1
    have hf : sForR (Tg.nm 9) (iF r1D (eN (oneD lenD) (aC (eVar 2) a0))) B_law_2 (LF sc P S c A s7 s8 n (.val (.int (lo : Int))) step) = .ok (.next (LF sc P S c A s7 s8 x (.val (.int (lo : Int))) step1)) := by
      rw [forR_ok (ds := upto 0 S.length) ?_ (upto_flat _ _)]
      · exact e1
      · refine (iF_ok (x := .int ((S.length : Nat) : Int)) ?_).trans hr
        refine (one_ok (x := .list (S.map .str)) rfl).trans ?_
        show Res.ok (PyData.int ((S.map PyData.str).length : Int)) = _
        rw [List.length_map]
    rw [seq_ok hf]
    simp -implicitDefEqProofs (disch := omega) only [Pyr.sSeq, Pyr.sIf, Pyr.sSet, Pyr.sSetL, Pyr.sRet, Pyr.sRetL, Pyr.sRetN, Pyr.sRetO, Pyr.sDrop, Pyr.sApp, Pyr.sNext, Pyr.sFrz, Pyr.sSetT, Pyr.tgF, Pyr.setsF, Pyr.evP, Pyr.evL, Pyr.evT, Pyr.bare, Pyr.eC, Pyr.e1, Pyr.e2, Pyr.eN, Pyr.aC, Pyr.a0, Pyr.eIf, Pyr.eAnd, Pyr.eOr, Pyr.eNot, Pyr.eChain, Pyr.tE, Pyr.tNotR, Pyr.tAndR, Pyr.tOrR, Pyr.eCall, Pyr.lCall, Pyr.iF, Pyr.iF2, Pyr.lN, Pyr.lF, Pyr.eFs, Pyr.jC, Pyr.j0, Pyr.eIxV, Pyr.ownI, Pyr.lAdd, Pyr.sExt, Pyr.sPop, Pyr.trF, Pyr.trsF, Trs.len, Pyr.run_max2, Pyr.run_min2, Pyr.backD, Pyr.eSlice, Pyr.oNone, Pyr.oSome, Pyr.optI, Pyr.lSlice, Pyr.listD, eL, Pyr.eB, Pyr.oneD, Pyr.oneL, Pyr.itemsD, Pyr.outR, Pyr.ownD, Pyr.RV.d, Pyr.tupD, Pyr.run_mul, Pyr.run_mulS, Pyr.run_add, Pyr.run_sub, Pyr.run_addS, Pyr.run_mod, Pyr.run_fdiv, Pyr.run_lt, Pyr.run_le, Pyr.run_gt, Pyr.run_ge, Pyr.run_lenL, Pyr.run_lenT, Pyr.run_lenS, Pyr.run_int, Pyr.run_bool, Pyr.run_truB, Pyr.run_truL, Pyr.run_pur1, Pyr.run_frz1, Pyr.run_pSv, Pyr.run_pSo, Pyr.run_pSe, Pyr.run_fSv, Pyr.run_fSo, Pyr.run_fSe, Pyr.run_pur0, Pyr.run_frz0, Pyr.run_v0n, Pyr.run_v0b, Pyr.run_v0i, Pyr.run_v0s, Pyr.run_v0l, Pyr.run_v0t, Pyr.run_v0o, Pyr.run_vN, Pyr.run_vS, Pyr.run_bad, Pyr.run_exc, Pyr.run_map, Pyr.run_okL, List.length_cons, List.length_nil, Pyr.bind_ok, List.set_cons_zero, List.set_cons_succ, List.getElem?_cons_zero, List.getElem?_cons_succ, Pyr.eqD_int, Pyr.eqD_str, Pyr.neD_int, Pyr.neD_str, if_true, if_false, Bool.not_true, Bool.not_false, Bool.false_eq_true, decide_true, decide_false, Pyr.run_atT0, Pyr.run_atT1, Pyr.run_atT2, Pyr.run_atT3, Pyr.run_atT4, Pyr.run_atL0, Pyr.run_atL1, Pyr.run_atL2, Pyr.run_atL3, Pyr.run_atL4, Pyr.isi_str_n, Pyr.isi_str_b, Pyr.isi_str_i, Pyr.isi_str_s, Pyr.isi_str_l, Pyr.isi_str_t, Pyr.isi_str_d, Pyr.isi_int_n, Pyr.isi_int_b, Pyr.isi_int_i, Pyr.isi_int_s, Pyr.isi_int_l, Pyr.isi_int_t, Pyr.isi_int_d, Pyr.isi_bool_n, Pyr.isi_bool_b, Pyr.isi_bool_i, Pyr.isi_bool_s, Pyr.isi_bool_l, Pyr.isi_bool_t, Pyr.isi_bool_d, Pyr.isi_list_n, Pyr.isi_list_b, Pyr.isi_list_i, Pyr.isi_list_s, Pyr.isi_list_l, Pyr.isi_list_t, Pyr.isi_list_d, Pyr.isi_tuple_n, Pyr.isi_tuple_b, Pyr.isi_tuple_i, Pyr.isi_tuple_s, Pyr.isi_tuple_l, Pyr.isi_tuple_t, Pyr.isi_tuple_d, Pyr.isi_dict_n, Pyr.isi_dict_b, Pyr.isi_dict_i, Pyr.isi_dict_s, Pyr.isi_dict_l, Pyr.isi_dict_t, Pyr.isi_dict_d, Nat.reduceAdd, Int.cast_ofNat_Int, Int.natCast_zero, Int.natCast_one, Int.reduceEq, Int.reduceLT, Int.reduceLE, Int.reduceAdd, Int.reduceSub, Int.reduceMul, Int.reduceNeg, Int.reduceNe, Nat.zero_add, reduceIte, decide_eq_true_eq, beq_self_eq_true, eq_self, Bool.true_or, Bool.or_true, Bool.and_true, Bool.true_and, Bool.false_or, Bool.or_false, Bool.and_false, Bool.false_and, hat, hs, hw]
    rfl
theorem eqD_list {A : List Pyr.D} (h : okd (.list A) = true) : eqD (.list A) (.list A) = .ok (.bool true) := eqD_self h
theorem law_true (ns : List Int) (h : ns.length ≤ 63) : m_law [scriptD ns] = .ok (.val (.bool true)) := by
  obtain ⟨vs, _, hv, hp⟩ := pool_run ns h
  obtain ⟨a, ha⟩ := at_pool (vs := vs) 0 0 rfl (by omega)
  obtain ⟨b, hb⟩ := at_pool (vs := vs) 1 1 rfl (by omega)
  obtain ⟨m, em, hm⟩ := fmod_nat a (m := 9) (by decide)
  obtain ⟨c, ec, hc⟩ := fmod_nat b (m := 15) (by decide)
  have em : a.fmod 9 = (m : Int) := em
  have ec : b.fmod 15 = (c : Int) := ec
  unfold m_law
  rw [defM_eq (np := 1) rfl]
  show outR (F_law [.val (.list (ns.map .int)), .emp, .emp, .emp, .emp, .emp, .emp, .emp, .emp, .emp]) = _
  unfold F_law
  rw [seq_ok (ρ' := [.val (.list (ns.map .int)), .val (.list (vs.map .int)), .emp, .emp, .emp, .emp, .emp, .emp, .emp, .emp]) (by simp -implicitDefEqProofs (disch := omega) only [Pyr.sSeq, Pyr.sIf, Pyr.sSet, Pyr.sSetL, Pyr.sRet, Pyr.sRetL, Pyr.sRetN, Pyr.sRetO, Pyr.sDrop, Pyr.sApp, Pyr.sNext, Pyr.sFrz, Pyr.sSetT, Pyr.tgF, Pyr.setsF, Pyr.evP, Pyr.evL, Pyr.evT, Pyr.bare, Pyr.eC, Pyr.e1, Pyr.e2, Pyr.eN, Pyr.aC, Pyr.a0, Pyr.eIf, Pyr.eAnd, Pyr.eOr, Pyr.eNot, Pyr.eChain, Pyr.tE, Pyr.tNotR, Pyr.tAndR, Pyr.tOrR, Pyr.eCall, Pyr.lCall, Pyr.iF, Pyr.iF2, Pyr.lN, Pyr.lF, Pyr.eFs, Pyr.jC, Pyr.j0, Pyr.eIxV, Pyr.ownI, Pyr.lAdd, Pyr.sExt, Pyr.sPop, Pyr.trF, Pyr.trsF, Trs.len, Pyr.run_max2, Pyr.run_min2, Pyr.backD, Pyr.eSlice, Pyr.oNone, Pyr.oSome, Pyr.optI, Pyr.lSlice, Pyr.listD, eL, Pyr.eB, Pyr.oneD, Pyr.oneL, Pyr.itemsD, Pyr.outR, Pyr.ownD, Pyr.RV.d, Pyr.tupD, Pyr.run_mul, Pyr.run_mulS, Pyr.run_add, Pyr.run_sub, Pyr.run_addS, Pyr.run_mod, Pyr.run_fdiv, Pyr.run_lt, Pyr.run_le, Pyr.run_gt, Pyr.run_ge, Pyr.run_lenL, Pyr.run_lenT, Pyr.run_lenS, Pyr.run_int, Pyr.run_bool, Pyr.run_truB, Pyr.run_truL, Pyr.run_pur1, Pyr.run_frz1, Pyr.run_pSv, Pyr.run_pSo, Pyr.run_pSe, Pyr.run_fSv, Pyr.run_fSo, Pyr.run_fSe, Pyr.run_pur0, Pyr.run_frz0, Pyr.run_v0n, Pyr.run_v0b, Pyr.run_v0i, Pyr.run_v0s, Pyr.run_v0l, Pyr.run_v0t, Pyr.run_v0o, Pyr.run_vN, Pyr.run_vS, Pyr.run_bad, Pyr.run_exc, Pyr.run_map, Pyr.run_okL, List.length_cons, List.length_nil, Pyr.bind_ok, List.set_cons_zero, List.set_cons_succ, List.getElem?_cons_zero, List.getElem?_cons_succ, Pyr.eqD_int, Pyr.eqD_str, Pyr.neD_int, Pyr.neD_str, if_true, if_false, Bool.not_true, Bool.not_false, Bool.false_eq_true, decide_true, decide_false, Pyr.run_atT0, Pyr.run_atT1, Pyr.run_atT2, Pyr.run_atT3, Pyr.run_atT4, Pyr.run_atL0, Pyr.run_atL1, Pyr.run_atL2, Pyr.run_atL3, Pyr.run_atL4, Pyr.isi_str_n, Pyr.isi_str_b, Pyr.isi_str_i, Pyr.isi_str_s, Pyr.isi_str_l, Pyr.isi_str_t, Pyr.isi_str_d, Pyr.isi_int_n, Pyr.isi_int_b, Pyr.isi_int_i, Pyr.isi_int_s, Pyr.isi_int_l, Pyr.isi_int_t, Pyr.isi_int_d, Pyr.isi_bool_n, Pyr.isi_bool_b, Pyr.isi_bool_i, Pyr.isi_bool_s, Pyr.isi_bool_l, Pyr.isi_bool_t, Pyr.isi_bool_d, Pyr.isi_list_n, Pyr.isi_list_b, Pyr.isi_list_i, Pyr.isi_list_s, Pyr.isi_list_l, Pyr.isi_list_t, Pyr.isi_list_d, Pyr.isi_tuple_n, Pyr.isi_tuple_b, Pyr.isi_tuple_i, Pyr.isi_tuple_s, Pyr.isi_tuple_l, Pyr.isi_tuple_t, Pyr.isi_tuple_d, Pyr.isi_dict_n, Pyr.isi_dict_b, Pyr.isi_dict_i, Pyr.isi_dict_s, Pyr.isi_dict_l, Pyr.isi_dict_t, Pyr.isi_dict_d, Nat.reduceAdd, Int.cast_ofNat_Int, Int.natCast_zero, Int.natCast_one, Int.reduceEq, Int.reduceLT, Int.reduceLE, Int.reduceAdd, Int.reduceSub, Int.reduceMul, Int.reduceNeg, Int.reduceNe, Nat.zero_add, reduceIte, decide_eq_true_eq, beq_self_eq_true, eq_self, Bool.true_or, Bool.or_true, Bool.and_true, Bool.true_and, Bool.false_or, Bool.or_false, Bool.and_false, Bool.false_and, hp])]
  unfold T_law_1
  rw [seq_ok (ρ' := [.val (.list (ns.map .int)), .val (.list (vs.map .int)), .own (.lst []), .emp, .emp, .emp, .emp, .emp, .emp, .emp]) rfl]
  unfold T_law_2
  obtain ⟨U, s3, s8, hU, lU, e1⟩ := draw_loop (.val (.list (ns.map .int))) vs hv m 0 [] .emp .emp (fun u hu => absurd hu (by simp)) (Nat.le_refl _) (by omega)
  have hr : r1D (.int (m : Int)) = .ok (upto 0 m) := r1D_nat (by show _ ≤ 100000; omega)
  have e1 : forF (Tg.nm 3) B_law_0 (upto 0 m) [.val (.list (ns.map .int)), .val (.list (vs.map .int)), .own (.lst []), .emp, .emp, .emp, .emp, .emp, .emp, .emp] = _ := e1
  rw [seq_ok (ρ' := [.val (.list (ns.map .int)), .val (.list (vs.map .int)), .own (.lst (U.map .str)), s3, .emp, .emp, .emp, .emp, s8, .emp]) (by simp -implicitDefEqProofs (disch := omega) only [Pyr.sSeq, Pyr.sIf, Pyr.sSet, Pyr.sSetL, Pyr.sRet, Pyr.sRetL, Pyr.sRetN, Pyr.sRetO, Pyr.sDrop, Pyr.sApp, Pyr.sNext, Pyr.sFrz, Pyr.sSetT, Pyr.tgF, Pyr.setsF, Pyr.evP, Pyr.evL, Pyr.evT, Pyr.bare, Pyr.eC, Pyr.e1, Pyr.e2, Pyr.eN, Pyr.aC, Pyr.a0, Pyr.eIf, Pyr.eAnd, Pyr.eOr, Pyr.eNot, Pyr.eChain, Pyr.tE, Pyr.tNotR, Pyr.tAndR, Pyr.tOrR, Pyr.eCall, Pyr.lCall, Pyr.iF, Pyr.iF2, Pyr.lN, Pyr.lF, Pyr.eFs, Pyr.jC, Pyr.j0, Pyr.eIxV, Pyr.ownI, Pyr.lAdd, Pyr.sExt, Pyr.sPop, Pyr.trF, Pyr.trsF, Trs.len, Pyr.run_max2, Pyr.run_min2, Pyr.backD, Pyr.eSlice, Pyr.oNone, Pyr.oSome, Pyr.optI, Pyr.lSlice, Pyr.listD, eL, Pyr.eB, Pyr.oneD, Pyr.oneL, Pyr.itemsD, Pyr.outR, Pyr.ownD, Pyr.RV.d, Pyr.tupD, Pyr.run_mul, Pyr.run_mulS, Pyr.run_add, Pyr.run_sub, Pyr.run_addS, Pyr.run_mod, Pyr.run_fdiv, Pyr.run_lt, Pyr.run_le, Pyr.run_gt, Pyr.run_ge, Pyr.run_lenL, Pyr.run_lenT, Pyr.run_lenS, Pyr.run_int, Pyr.run_bool, Pyr.run_truB, Pyr.run_truL, Pyr.run_pur1, Pyr.run_frz1, Pyr.run_pSv, Pyr.run_pSo, Pyr.run_pSe, Pyr.run_fSv, Pyr.run_fSo, Pyr.run_fSe, Pyr.run_pur0, Pyr.run_frz0, Pyr.run_v0n, Pyr.run_v0b, Pyr.run_v0i, Pyr.run_v0s, Pyr.run_v0l, Pyr.run_v0t, Pyr.run_v0o, Pyr.run_vN, Pyr.run_vS, Pyr.run_bad, Pyr.run_exc, Pyr.run_map, Pyr.run_okL, List.length_cons, List.length_nil, Pyr.bind_ok, List.set_cons_zero, List.set_cons_succ, List.getElem?_cons_zero, List.getElem?_cons_succ, Pyr.eqD_int, Pyr.eqD_str, Pyr.neD_int, Pyr.neD_str, if_true, if_false, Bool.not_true, Bool.not_false, Bool.false_eq_true, decide_true, decide_false, Pyr.run_atT0, Pyr.run_atT1, Pyr.run_atT2, Pyr.run_atT3, Pyr.run_atT4, Pyr.run_atL0, Pyr.run_atL1, Pyr.run_atL2, Pyr.run_atL3, Pyr.run_atL4, Pyr.isi_str_n, Pyr.isi_str_b, Pyr.isi_str_i, Pyr.isi_str_s, Pyr.isi_str_l, Pyr.isi_str_t, Pyr.isi_str_d, Pyr.isi_int_n, Pyr.isi_int_b, Pyr.isi_int_i, Pyr.isi_int_s, Pyr.isi_int_l, Pyr.isi_int_t, Pyr.isi_int_d, Pyr.isi_bool_n, Pyr.isi_bool_b, Pyr.isi_bool_i, Pyr.isi_bool_s, Pyr.isi_bool_l, Pyr.isi_bool_t, Pyr.isi_bool_d, Pyr.isi_list_n, Pyr.isi_list_b, Pyr.isi_list_i, Pyr.isi_list_s, Pyr.isi_list_l, Pyr.isi_list_t, Pyr.isi_list_d, Pyr.isi_tuple_n, Pyr.isi_tuple_b, Pyr.isi_tuple_i, Pyr.isi_tuple_s, Pyr.isi_tuple_l, Pyr.isi_tuple_t, Pyr.isi_tuple_d, Pyr.isi_dict_n, Pyr.isi_dict_b, Pyr.isi_dict_i, Pyr.isi_dict_s, Pyr.isi_dict_l, Pyr.isi_dict_t, Pyr.isi_dict_d, Nat.reduceAdd, Int.cast_ofNat_Int, Int.natCast_zero, Int.natCast_one, Int.reduceEq, Int.reduceLT, Int.reduceLE, Int.reduceAdd, Int.reduceSub, Int.reduceMul, Int.reduceNeg, Int.reduceNe, Nat.zero_add, reduceIte, decide_eq_true_eq, beq_self_eq_true, eq_self, Bool.true_or, Bool.or_true, Bool.and_true, Bool.true_and, Bool.false_or, Bool.or_false, Bool.and_false, Bool.false_and, sForR, evR, ha, em, hr, upto_flat, e1])]
  unfold T_law_3
  rw [seq_ok (ρ' := [.val (.list (ns.map .int)), .val (.list (vs.map .int)), .own (.lst (U.map .str)), s3, .val (.int (c : Int)), .emp, .emp, .emp, s8, .emp]) (by simp -implicitDefEqProofs (disch := omega) only [Pyr.sSeq, Pyr.sIf, Pyr.sSet, Pyr.sSetL, Pyr.sRet, Pyr.sRetL, Pyr.sRetN, Pyr.sRetO, Pyr.sDrop, Pyr.sApp, Pyr.sNext, Pyr.sFrz, Pyr.sSetT, Pyr.tgF, Pyr.setsF, Pyr.evP, Pyr.evL, Pyr.evT, Pyr.bare, Pyr.eC, Pyr.e1, Pyr.e2, Pyr.eN, Pyr.aC, Pyr.a0, Pyr.eIf, Pyr.eAnd, Pyr.eOr, Pyr.eNot, Pyr.eChain, Pyr.tE, Pyr.tNotR, Pyr.tAndR, Pyr.tOrR, Pyr.eCall, Pyr.lCall, Pyr.iF, Pyr.iF2, Pyr.lN, Pyr.lF, Pyr.eFs, Pyr.jC, Pyr.j0, Pyr.eIxV, Pyr.ownI, Pyr.lAdd, Pyr.sExt, Pyr.sPop, Pyr.trF, Pyr.trsF, Trs.len, Pyr.run_max2, Pyr.run_min2, Pyr.backD, Pyr.eSlice, Pyr.oNone, Pyr.oSome, Pyr.optI, Pyr.lSlice, Pyr.listD, eL, Pyr.eB, Pyr.oneD, Pyr.oneL, Pyr.itemsD, Pyr.outR, Pyr.ownD, Pyr.RV.d, Pyr.tupD, Pyr.run_mul, Pyr.run_mulS, Pyr.run_add, Pyr.run_sub, Pyr.run_addS, Pyr.run_mod, Pyr.run_fdiv, Pyr.run_lt, Pyr.run_le, Pyr.run_gt, Pyr.run_ge, Pyr.run_lenL, Pyr.run_lenT, Pyr.run_lenS, Pyr.run_int, Pyr.run_bool, Pyr.run_truB, Pyr.run_truL, Pyr.run_pur1, Pyr.run_frz1, Pyr.run_pSv, Pyr.run_pSo, Pyr.run_pSe, Pyr.run_fSv, Pyr.run_fSo, Pyr.run_fSe, Pyr.run_pur0, Pyr.run_frz0, Pyr.run_v0n, Pyr.run_v0b, Pyr.run_v0i, Pyr.run_v0s, Pyr.run_v0l, Pyr.run_v0t, Pyr.run_v0o, Pyr.run_vN, Pyr.run_vS, Pyr.run_bad, Pyr.run_exc, Pyr.run_map, Pyr.run_okL, List.length_cons, List.length_nil, Pyr.bind_ok, List.set_cons_zero, List.set_cons_succ, List.getElem?_cons_zero, List.getElem?_cons_succ, Pyr.eqD_int, Pyr.eqD_str, Pyr.neD_int, Pyr.neD_str, if_true, if_false, Bool.not_true, Bool.not_false, Bool.false_eq_true, decide_true, decide_false, Pyr.run_atT0, Pyr.run_atT1, Pyr.run_atT2, Pyr.run_atT3, Pyr.run_atT4, Pyr.run_atL0, Pyr.run_atL1, Pyr.run_atL2, Pyr.run_atL3, Pyr.run_atL4, Pyr.isi_str_n, Pyr.isi_str_b, Pyr.isi_str_i, Pyr.isi_str_s, Pyr.isi_str_l, Pyr.isi_str_t, Pyr.isi_str_d, Pyr.isi_int_n, Pyr.isi_int_b, Pyr.isi_int_i, Pyr.isi_int_s, Pyr.isi_int_l, Pyr.isi_int_t, Pyr.isi_int_d, Pyr.isi_bool_n, Pyr.isi_bool_b, Pyr.isi_bool_i, Pyr.isi_bool_s, Pyr.isi_bool_l, Pyr.isi_bool_t, Pyr.isi_bool_d, Pyr.isi_list_n, Pyr.isi_list_b, Pyr.isi_list_i, Pyr.isi_list_s, Pyr.isi_list_l, Pyr.isi_list_t, Pyr.isi_list_d, Pyr.isi_tuple_n, Pyr.isi_tuple_b, Pyr.isi_tuple_i, Pyr.isi_tuple_s, Pyr.isi_tuple_l, Pyr.isi_tuple_t, Pyr.isi_tuple_d, Pyr.isi_dict_n, Pyr.isi_dict_b, Pyr.isi_dict_i, Pyr.isi_dict_s, Pyr.isi_dict_l, Pyr.isi_dict_t, Pyr.isi_dict_d, Nat.reduceAdd, Int.cast_ofNat_Int, Int.natCast_zero, Int.natCast_one, Int.reduceEq, Int.reduceLT, Int.reduceLE, Int.reduceAdd, Int.reduceSub, Int.reduceMul, Int.reduceNeg, Int.reduceNe, Nat.zero_add, reduceIte, decide_eq_true_eq, beq_self_eq_true, eq_self, Bool.true_or, Bool.or_true, Bool.and_true, Bool.true_and, Bool.false_or, Bool.or_false, Bool.and_false, Bool.false_and, hb, ec])]
  obtain ⟨S, hS, lS, es⟩ := sort_texts hU lU
  unfold T_law_4
  show outR (sSeq (sSetL 2 (lF (oneL sortL) (aC (eVar 2) a0))) T_law_5 [.val (.list (ns.map .int)), .val (.list (vs.map .int)), .val (.list (U.map .str)), s3, .val (.int (c : Int)), .emp, .emp, .emp, s8, .emp]) = _
  rw [seq_ok (ρ' := [.val (.list (ns.map .int)), .val (.list (vs.map .int)), .own (.lst (S.map .str)), s3, .val (.int (c : Int)), .emp, .emp, .emp, s8, .emp]) (by simp -implicitDefEqProofs (disch := omega) only [Pyr.sSeq, Pyr.sIf, Pyr.sSet, Pyr.sSetL, Pyr.sRet, Pyr.sRetL, Pyr.sRetN, Pyr.sRetO, Pyr.sDrop, Pyr.sApp, Pyr.sNext, Pyr.sFrz, Pyr.sSetT, Pyr.tgF, Pyr.setsF, Pyr.evP, Pyr.evL, Pyr.evT, Pyr.bare, Pyr.eC, Pyr.e1, Pyr.e2, Pyr.eN, Pyr.aC, Pyr.a0, Pyr.eIf, Pyr.eAnd, Pyr.eOr, Pyr.eNot, Pyr.eChain, Pyr.tE, Pyr.tNotR, Pyr.tAndR, Pyr.tOrR, Pyr.eCall, Pyr.lCall, Pyr.iF, Pyr.iF2, Pyr.lN, Pyr.lF, Pyr.eFs, Pyr.jC, Pyr.j0, Pyr.eIxV, Pyr.ownI, Pyr.lAdd, Pyr.sExt, Pyr.sPop, Pyr.trF, Pyr.trsF, Trs.len, Pyr.run_max2, Pyr.run_min2, Pyr.backD, Pyr.eSlice, Pyr.oNone, Pyr.oSome, Pyr.optI, Pyr.lSlice, Pyr.listD, eL, Pyr.eB, Pyr.oneD, Pyr.oneL, Pyr.itemsD, Pyr.outR, Pyr.ownD, Pyr.RV.d, Pyr.tupD, Pyr.run_mul, Pyr.run_mulS, Pyr.run_add, Pyr.run_sub, Pyr.run_addS, Pyr.run_mod, Pyr.run_fdiv, Pyr.run_lt, Pyr.run_le, Pyr.run_gt, Pyr.run_ge, Pyr.run_lenL, Pyr.run_lenT, Pyr.run_lenS, Pyr.run_int, Pyr.run_bool, Pyr.run_truB, Pyr.run_truL, Pyr.run_pur1, Pyr.run_frz1, Pyr.run_pSv, Pyr.run_pSo, Pyr.run_pSe, Pyr.run_fSv, Pyr.run_fSo, Pyr.run_fSe, Pyr.run_pur0, Pyr.run_frz0, Pyr.run_v0n, Pyr.run_v0b, Pyr.run_v0i, Pyr.run_v0s, Pyr.run_v0l, Pyr.run_v0t, Pyr.run_v0o, Pyr.run_vN, Pyr.run_vS, Pyr.run_bad, Pyr.run_exc, Pyr.run_map, Pyr.run_okL, List.length_cons, List.length_nil, Pyr.bind_ok, List.set_cons_zero, List.set_cons_succ, List.getElem?_cons_zero, List.getElem?_cons_succ, Pyr.eqD_int, Pyr.eqD_str, Pyr.neD_int, Pyr.neD_str, if_true, if_false, Bool.not_true, Bool.not_false, Bool.false_eq_true, decide_true, decide_false, Pyr.run_atT0, Pyr.run_atT1, Pyr.run_atT2, Pyr.run_atT3, Pyr.run_atT4, Pyr.run_atL0, Pyr.run_atL1, Pyr.run_atL2, Pyr.run_atL3, Pyr.run_atL4, Pyr.isi_str_n, Pyr.isi_str_b, Pyr.isi_str_i, Pyr.isi_str_s, Pyr.isi_str_l, Pyr.isi_str_t, Pyr.isi_str_d, Pyr.isi_int_n, Pyr.isi_int_b, Pyr.isi_int_i, Pyr.isi_int_s, Pyr.isi_int_l, Pyr.isi_int_t, Pyr.isi_int_d, Pyr.isi_bool_n, Pyr.isi_bool_b, Pyr.isi_bool_i, Pyr.isi_bool_s, Pyr.isi_bool_l, Pyr.isi_bool_t, Pyr.isi_bool_d, Pyr.isi_list_n, Pyr.isi_list_b, Pyr.isi_list_i, Pyr.isi_list_s, Pyr.isi_list_l, Pyr.isi_list_t, Pyr.isi_list_d, Pyr.isi_tuple_n, Pyr.isi_tuple_b, Pyr.isi_tuple_i, Pyr.isi_tuple_s, Pyr.isi_tuple_l, Pyr.isi_tuple_t, Pyr.isi_tuple_d, Pyr.isi_dict_n, Pyr.isi_dict_b, Pyr.isi_dict_i, Pyr.isi_dict_s, Pyr.isi_dict_l, Pyr.isi_dict_t, Pyr.isi_dict_d, Nat.reduceAdd, Int.cast_ofNat_Int, Int.natCast_zero, Int.natCast_one, Int.reduceEq, Int.reduceLT, Int.reduceLE, Int.reduceAdd, Int.reduceSub, Int.reduceMul, Int.reduceNeg, Int.reduceNe, Nat.zero_add, reduceIte, decide_eq_true_eq, beq_self_eq_true, eq_self, Bool.true_or, Bool.or_true, Bool.and_true, Bool.true_and, Bool.false_or, Bool.or_false, Bool.and_false, Bool.false_and, es])]
  have hf := fresh_run S lS c (by omega)
  generalize hA : (nums S c 0).map (fun i => PyData.str (dW i)) = A at hf
  have lA : A.length = c := by rw [← hA, List.length_map, nums_len]
  have oA : okd (.list A) = true := by
    have : ∀ (j n : Nat), n + j * 9 ≤ 150 → ∀ i ∈ nums S j n, i < 200 := by
      intro j
      induction j with
      | zero => exact fun n _ i hi => absurd hi (by simp [nums])
      | succ j ih =>
        intro n hn i hi
        have b := nx_le S S.length n
        rw [nums] at hi
        rcases List.mem_cons.mp hi with rfl | hi
        · omega
        · exact ih _ (by omega) i hi
    show okDs 59 A = true
    refine okDs_all _ fun d hd => ?_
    rw [← hA] at hd
    obtain ⟨i, hi, rfl⟩ := List.mem_map.mp hd
    exact dW_ok (this c 0 (by omega) i hi)
  unfold T_law_5
  show outR (sSeq (sSet 5 (eCall m_fresh_words (aC (eL (lF (oneL itemsD) (aC (eVar 2) a0))) (aC (eVar 4) a0)))) T_law_6 [.val (.list (ns.map .int)), .val (.list (vs.map .int)), .val (.list (S.map .str)), s3, .val (.int (c : Int)), .emp, .emp, .emp, s8, .emp]) = _
  rw [seq_ok (ρ' := [.val (.list (ns.map .int)), .val (.list (vs.map .int)), .val (.list (S.map .str)), s3, .val (.int (c : Int)), .val (.list A), .emp, .emp, s8, .emp]) (by simp -implicitDefEqProofs (disch := omega) only [Pyr.sSeq, Pyr.sIf, Pyr.sSet, Pyr.sSetL, Pyr.sRet, Pyr.sRetL, Pyr.sRetN, Pyr.sRetO, Pyr.sDrop, Pyr.sApp, Pyr.sNext, Pyr.sFrz, Pyr.sSetT, Pyr.tgF, Pyr.setsF, Pyr.evP, Pyr.evL, Pyr.evT, Pyr.bare, Pyr.eC, Pyr.e1, Pyr.e2, Pyr.eN, Pyr.aC, Pyr.a0, Pyr.eIf, Pyr.eAnd, Pyr.eOr, Pyr.eNot, Pyr.eChain, Pyr.tE, Pyr.tNotR, Pyr.tAndR, Pyr.tOrR, Pyr.eCall, Pyr.lCall, Pyr.iF, Pyr.iF2, Pyr.lN, Pyr.lF, Pyr.eFs, Pyr.jC, Pyr.j0, Pyr.eIxV, Pyr.ownI, Pyr.lAdd, Pyr.sExt, Pyr.sPop, Pyr.trF, Pyr.trsF, Trs.len, Pyr.run_max2, Pyr.run_min2, Pyr.backD, Pyr.eSlice, Pyr.oNone, Pyr.oSome, Pyr.optI, Pyr.lSlice, Pyr.listD, eL, Pyr.eB, Pyr.oneD, Pyr.oneL, Pyr.itemsD, Pyr.outR, Pyr.ownD, Pyr.RV.d, Pyr.tupD, Pyr.run_mul, Pyr.run_mulS, Pyr.run_add, Pyr.run_sub, Pyr.run_addS, Pyr.run_mod, Pyr.run_fdiv, Pyr.run_lt, Pyr.run_le, Pyr.run_gt, Pyr.run_ge, Pyr.run_lenL, Pyr.run_lenT, Pyr.run_lenS, Pyr.run_int, Pyr.run_bool, Pyr.run_truB, Pyr.run_truL, Pyr.run_pur1, Pyr.run_frz1, Pyr.run_pSv, Pyr.run_pSo, Pyr.run_pSe, Pyr.run_fSv, Pyr.run_fSo, Pyr.run_fSe, Pyr.run_pur0, Pyr.run_frz0, Pyr.run_v0n, Pyr.run_v0b, Pyr.run_v0i, Pyr.run_v0s, Pyr.run_v0l, Pyr.run_v0t, Pyr.run_v0o, Pyr.run_vN, Pyr.run_vS, Pyr.run_bad, Pyr.run_exc, Pyr.run_map, Pyr.run_okL, List.length_cons, List.length_nil, Pyr.bind_ok, List.set_cons_zero, List.set_cons_succ, List.getElem?_cons_zero, List.getElem?_cons_succ, Pyr.eqD_int, Pyr.eqD_str, Pyr.neD_int, Pyr.neD_str, if_true, if_false, Bool.not_true, Bool.not_false, Bool.false_eq_true, decide_true, decide_false, Pyr.run_atT0, Pyr.run_atT1, Pyr.run_atT2, Pyr.run_atT3, Pyr.run_atT4, Pyr.run_atL0, Pyr.run_atL1, Pyr.run_atL2, Pyr.run_atL3, Pyr.run_atL4, Pyr.isi_str_n, Pyr.isi_str_b, Pyr.isi_str_i, Pyr.isi_str_s, Pyr.isi_str_l, Pyr.isi_str_t, Pyr.isi_str_d, Pyr.isi_int_n, Pyr.isi_int_b, Pyr.isi_int_i, Pyr.isi_int_s, Pyr.isi_int_l, Pyr.isi_int_t, Pyr.isi_int_d, Pyr.isi_bool_n, Pyr.isi_bool_b, Pyr.isi_bool_i, Pyr.isi_bool_s, Pyr.isi_bool_l, Pyr.isi_bool_t, Pyr.isi_bool_d, Pyr.isi_list_n, Pyr.isi_list_b, Pyr.isi_list_i, Pyr.isi_list_s, Pyr.isi_list_l, Pyr.isi_list_t, Pyr.isi_list_d, Pyr.isi_tuple_n, Pyr.isi_tuple_b, Pyr.isi_tuple_i, Pyr.isi_tuple_s, Pyr.isi_tuple_l, Pyr.isi_tuple_t, Pyr.isi_tuple_d, Pyr.isi_dict_n, Pyr.isi_dict_b, Pyr.isi_dict_i, Pyr.isi_dict_s, Pyr.isi_dict_l, Pyr.isi_dict_t, Pyr.isi_dict_d, Nat.reduceAdd, Int.cast_ofNat_Int, Int.natCast_zero, Int.natCast_one, Int.reduceEq, Int.reduceLT, Int.reduceLE, Int.reduceAdd, Int.reduceSub, Int.reduceMul, Int.reduceNeg, Int.reduceNe, Nat.zero_add, reduceIte, decide_eq_true_eq, beq_self_eq_true, eq_self, Bool.true_or, Bool.or_true, Bool.and_true, Bool.true_and, Bool.false_or, Bool.or_false, Bool.and_false, Bool.false_and, hf])]
  unfold T_law_6
  rw [seq_ok (ρ' := [.val (.list (ns.map .int)), .val (.list (vs.map .int)), .val (.list (S.map .str)), s3, .val (.int (c : Int)), .val (.list A), .emp, .emp, s8, .emp]) (by simp -implicitDefEqProofs (disch := omega) only [Pyr.sSeq, Pyr.sIf, Pyr.sSet, Pyr.sSetL, Pyr.sRet, Pyr.sRetL, Pyr.sRetN, Pyr.sRetO, Pyr.sDrop, Pyr.sApp, Pyr.sNext, Pyr.sFrz, Pyr.sSetT, Pyr.tgF, Pyr.setsF, Pyr.evP, Pyr.evL, Pyr.evT, Pyr.bare, Pyr.eC, Pyr.e1, Pyr.e2, Pyr.eN, Pyr.aC, Pyr.a0, Pyr.eIf, Pyr.eAnd, Pyr.eOr, Pyr.eNot, Pyr.eChain, Pyr.tE, Pyr.tNotR, Pyr.tAndR, Pyr.tOrR, Pyr.eCall, Pyr.lCall, Pyr.iF, Pyr.iF2, Pyr.lN, Pyr.lF, Pyr.eFs, Pyr.jC, Pyr.j0, Pyr.eIxV, Pyr.ownI, Pyr.lAdd, Pyr.sExt, Pyr.sPop, Pyr.trF, Pyr.trsF, Trs.len, Pyr.run_max2, Pyr.run_min2, Pyr.backD, Pyr.eSlice, Pyr.oNone, Pyr.oSome, Pyr.optI, Pyr.lSlice, Pyr.listD, eL, Pyr.eB, Pyr.oneD, Pyr.oneL, Pyr.itemsD, Pyr.outR, Pyr.ownD, Pyr.RV.d, Pyr.tupD, Pyr.run_mul, Pyr.run_mulS, Pyr.run_add, Pyr.run_sub, Pyr.run_addS, Pyr.run_mod, Pyr.run_fdiv, Pyr.run_lt, Pyr.run_le, Pyr.run_gt, Pyr.run_ge, Pyr.run_lenL, Pyr.run_lenT, Pyr.run_lenS, Pyr.run_int, Pyr.run_bool, Pyr.run_truB, Pyr.run_truL, Pyr.run_pur1, Pyr.run_frz1, Pyr.run_pSv, Pyr.run_pSo, Pyr.run_pSe, Pyr.run_fSv, Pyr.run_fSo, Pyr.run_fSe, Pyr.run_pur0, Pyr.run_frz0, Pyr.run_v0n, Pyr.run_v0b, Pyr.run_v0i, Pyr.run_v0s, Pyr.run_v0l, Pyr.run_v0t, Pyr.run_v0o, Pyr.run_vN, Pyr.run_vS, Pyr.run_bad, Pyr.run_exc, Pyr.run_map, Pyr.run_okL, List.length_cons, List.length_nil, Pyr.bind_ok, List.set_cons_zero, List.set_cons_succ, List.getElem?_cons_zero, List.getElem?_cons_succ, Pyr.eqD_int, Pyr.eqD_str, Pyr.neD_int, Pyr.neD_str, if_true, if_false, Bool.not_true, Bool.not_false, Bool.false_eq_true, decide_true, decide_false, Pyr.run_atT0, Pyr.run_atT1, Pyr.run_atT2, Pyr.run_atT3, Pyr.run_atT4, Pyr.run_atL0, Pyr.run_atL1, Pyr.run_atL2, Pyr.run_atL3, Pyr.run_atL4, Pyr.isi_str_n, Pyr.isi_str_b, Pyr.isi_str_i, Pyr.isi_str_s, Pyr.isi_str_l, Pyr.isi_str_t, Pyr.isi_str_d, Pyr.isi_int_n, Pyr.isi_int_b, Pyr.isi_int_i, Pyr.isi_int_s, Pyr.isi_int_l, Pyr.isi_int_t, Pyr.isi_int_d, Pyr.isi_bool_n, Pyr.isi_bool_b, Pyr.isi_bool_i, Pyr.isi_bool_s, Pyr.isi_bool_l, Pyr.isi_bool_t, Pyr.isi_bool_d, Pyr.isi_list_n, Pyr.isi_list_b, Pyr.isi_list_i, Pyr.isi_list_s, Pyr.isi_list_l, Pyr.isi_list_t, Pyr.isi_list_d, Pyr.isi_tuple_n, Pyr.isi_tuple_b, Pyr.isi_tuple_i, Pyr.isi_tuple_s, Pyr.isi_tuple_l, Pyr.isi_tuple_t, Pyr.isi_tuple_d, Pyr.isi_dict_n, Pyr.isi_dict_b, Pyr.isi_dict_i, Pyr.isi_dict_s, Pyr.isi_dict_l, Pyr.isi_dict_t, Pyr.isi_dict_d, Nat.reduceAdd, Int.cast_ofNat_Int, Int.natCast_zero, Int.natCast_one, Int.reduceEq, Int.reduceLT, Int.reduceLE, Int.reduceAdd, Int.reduceSub, Int.reduceMul, Int.reduceNeg, Int.reduceNe, Nat.zero_add, reduceIte, decide_eq_true_eq, beq_self_eq_true, eq_self, Bool.true_or, Bool.or_true, Bool.and_true, Bool.true_and, Bool.false_or, Bool.or_false, Bool.and_false, Bool.false_and, lA])]
  unfold T_law_7
  rw [seq_ok (ρ' := LF (.val (.list (ns.map .int))) (.val (.list (vs.map .int))) S c A .emp s8 0 s3 .emp) rfl]
  unfold T_law_8
  obtain ⟨n', k', step', e2⟩ := out_loop (.val (.list (ns.map .int))) (.val (.list (vs.map .int))) S hS lS c A .emp s8 c 0 0 [] s3 .emp (by omega) hA.symm rfl
  have hr2 : r1D (.int (c : Int)) = .ok (upto 0 c) := r1D_nat (by show _ ≤ 100000; omega)
  rw [seq_ok ((forR_ok (ds := upto 0 c) ((iF_ok (x := .int (c : Int)) rfl).trans hr2) (upto_flat _ _)).trans e2)]
  unfold T_law_9
  show outR (sSeq (sSet 7 (eL (lF (oneL itemsD) (aC (eVar 2) a0)))) T_law_10 (LF (.val (.list (ns.map .int))) (.val (.list (vs.map .int))) S c A .emp s8 n' k' step')) = _
  rw [seq_ok (ρ' := LF (.val (.list (ns.map .int))) (.val (.list (vs.map .int))) S c A (.val (.list (S.map .str))) s8 n' k' step') rfl]
  unfold T_law_10
  have q1 := eqD_list oA
  have q2 := eqD_list (okd_texts hS)
  simp -implicitDefEqProofs (disch := omega) only [Pyr.sSeq, Pyr.sIf, Pyr.sSet, Pyr.sSetL, Pyr.sRet, Pyr.sRetL, Pyr.sRetN, Pyr.sRetO, Pyr.sDrop, Pyr.sApp, Pyr.sNext, Pyr.sFrz, Pyr.sSetT, Pyr.tgF, Pyr.setsF, Pyr.evP, Pyr.evL, Pyr.evT, Pyr.bare, Pyr.eC, Pyr.e1, Pyr.e2, Pyr.eN, Pyr.aC, Pyr.a0, Pyr.eIf, Pyr.eAnd, Pyr.eOr, Pyr.eNot, Pyr.eChain, Pyr.tE, Pyr.tNotR, Pyr.tAndR, Pyr.tOrR, Pyr.eCall, Pyr.lCall, Pyr.iF, Pyr.iF2, Pyr.lN, Pyr.lF, Pyr.eFs, Pyr.jC, Pyr.j0, Pyr.eIxV, Pyr.ownI, Pyr.lAdd, Pyr.sExt, Pyr.sPop, Pyr.trF, Pyr.trsF, Trs.len, Pyr.run_max2, Pyr.run_min2, Pyr.backD, Pyr.eSlice, Pyr.oNone, Pyr.oSome, Pyr.optI, Pyr.lSlice, Pyr.listD, eL, Pyr.eB, Pyr.oneD, Pyr.oneL, Pyr.itemsD, Pyr.outR, Pyr.ownD, Pyr.RV.d, Pyr.tupD, Pyr.run_mul, Pyr.run_mulS, Pyr.run_add, Pyr.run_sub, Pyr.run_addS, Pyr.run_mod, Pyr.run_fdiv, Pyr.run_lt, Pyr.run_le, Pyr.run_gt, Pyr.run_ge, Pyr.run_lenL, Pyr.run_lenT, Pyr.run_lenS, Pyr.run_int, Pyr.run_bool, Pyr.run_truB, Pyr.run_truL, Pyr.run_pur1, Pyr.run_frz1, Pyr.run_pSv, Pyr.run_pSo, Pyr.run_pSe, Pyr.run_fSv, Pyr.run_fSo, Pyr.run_fSe, Pyr.run_pur0, Pyr.run_frz0, Pyr.run_v0n, Pyr.run_v0b, Pyr.run_v0i, Pyr.run_v0s, Pyr.run_v0l, Pyr.run_v0t, Pyr.run_v0o, Pyr.run_vN, Pyr.run_vS, Pyr.run_bad, Pyr.run_exc, Pyr.run_map, Pyr.run_okL, List.length_cons, List.length_nil, Pyr.bind_ok, List.set_cons_zero, List.set_cons_succ, List.getElem?_cons_zero, List.getElem?_cons_succ, Pyr.eqD_int, Pyr.eqD_str, Pyr.neD_int, Pyr.neD_str, if_true, if_false, Bool.not_true, Bool.not_false, Bool.false_eq_true, decide_true, decide_false, Pyr.run_atT0, Pyr.run_atT1, Pyr.run_atT2, Pyr.run_atT3, Pyr.run_atT4, Pyr.run_atL0, Pyr.run_atL1, Pyr.run_atL2, Pyr.run_atL3, Pyr.run_atL4, Pyr.isi_str_n, Pyr.isi_str_b, Pyr.isi_str_i, Pyr.isi_str_s, Pyr.isi_str_l, Pyr.isi_str_t, Pyr.isi_str_d, Pyr.isi_int_n, Pyr.isi_int_b, Pyr.isi_int_i, Pyr.isi_int_s, Pyr.isi_int_l, Pyr.isi_int_t, Pyr.isi_int_d, Pyr.isi_bool_n, Pyr.isi_bool_b, Pyr.isi_bool_i, Pyr.isi_bool_s, Pyr.isi_bool_l, Pyr.isi_bool_t, Pyr.isi_bool_d, Pyr.isi_list_n, Pyr.isi_list_b, Pyr.isi_list_i, Pyr.isi_list_s, Pyr.isi_list_l, Pyr.isi_list_t, Pyr.isi_list_d, Pyr.isi_tuple_n, Pyr.isi_tuple_b, Pyr.isi_tuple_i, Pyr.isi_tuple_s, Pyr.isi_tuple_l, Pyr.isi_tuple_t, Pyr.isi_tuple_d, Pyr.isi_dict_n, Pyr.isi_dict_b, Pyr.isi_dict_i, Pyr.isi_dict_s, Pyr.isi_dict_l, Pyr.isi_dict_t, Pyr.isi_dict_d, Nat.reduceAdd, Int.cast_ofNat_Int, Int.natCast_zero, Int.natCast_one, Int.reduceEq, Int.reduceLT, Int.reduceLE, Int.reduceAdd, Int.reduceSub, Int.reduceMul, Int.reduceNeg, Int.reduceNe, Nat.zero_add, reduceIte, decide_eq_true_eq, beq_self_eq_true, eq_self, Bool.true_or, Bool.or_true, Bool.and_true, Bool.true_and, Bool.false_or, Bool.or_false, Bool.and_false, Bool.false_and, hf, q1, q2]
theorem ends {P : Program} {w : World} {K : PySem.W.Frag} {mg : Str → Option Value} {h : Heap} {fa : Addr} {q : Program} (X : K.In h) (G : h.Ns mainGlobals mg) (hfa : mg "law" = some (.ref fa)) (tabs : ∀ (y : Str) (dd : DefRec) (c P : Addr), (recsOf q).find? (fun e => e.name == y) = some dd → PySem.W.tabIn K y = some (c, P) → PySem.W.CodeHd h c P ∧ h.get? P = some (PySem.W.tabObj #[])) (d__law_pool : DefIn K "_law_pool" s__law_pool) (d_fresh_words : DefIn K "fresh_words" s_fresh_words) (d__law_word : DefIn K "_law_word" s__law_word) (d_law : DefIn K "law" s_law) (y_int : PySem.W.nsIn K mainGlobals "int" = some none) (y_isinstance : PySem.W.nsIn K mainGlobals "isinstance" = some none) (y_len : PySem.W.nsIn K mainGlobals "len" = some none) (y_list : PySem.W.nsIn K mainGlobals "list" = some none) (y_min : PySem.W.nsIn K mainGlobals "min" = some none) (y_range : PySem.W.nsIn K mainGlobals "range" = some none) (y_set : PySem.W.nsIn K mainGlobals "set" = some none) (y_sorted : PySem.W.nsIn K mainGlobals "sorted" = some none) (y_str : PySem.W.nsIn K mainGlobals "str" = some none)   :
    ∃ (fd : FuncData) (cs : List (Addr × Addr)), (∀ p ∈ cs, PySem.W.CodeHd h p.1 p.2 ∧ h.get? p.2 = some (PySem.W.tabObj #[])) ∧ (∀ p ∈ cs, K.lookup p.2 = none) ∧ (∀ (s : Shared) (u : Value), BindsTo s fd ⟨[u], []⟩ [("script", u)]) ∧ ∀ base : Heap, K.In base → base.Ns mainGlobals mg → (∀ p ∈ cs, GxR.TabB base mg p.1 p.2) → FnOk P w K mg base (L2.CX P w) 2 fa fd ["script"] (spLawT K (cs.map (·.2))) := by
  have q__law_pool : ∀ base : Heap, (∀ p ∈ ([] : List (Addr × Addr)), GxR.TabB base mg p.1 p.2) → Known (TabList.mk (List.map (·.2) ([] : List (Addr × Addr))) P w) P w K mg base 1 "_law_pool" ["script"] m__law_pool := fun base ht => kn__law_pool (PySem.W.mg_none_of X G y_int) (PySem.W.mg_none_of X G y_len) (PySem.W.mg_none_of X G y_min) (PySem.W.mg_none_of X G y_range)   (d__law_pool.dfn X G bo__law_pool)
  have q_fresh_words : ∀ base : Heap, (∀ p ∈ ([] : List (Addr × Addr)), GxR.TabB base mg p.1 p.2) → Known (TabList.mk (List.map (·.2) ([] : List (Addr × Addr))) P w) P w K mg base 1 "fresh_words" ["used", "count"] m_fresh_words := fun base ht => kn_fresh_words (PySem.W.mg_none_of X G y_len) (PySem.W.mg_none_of X G y_set)   (d_fresh_words.dfn X G bo_fresh_words)
  have q__law_word : ∀ base : Heap, (∀ p ∈ ([] : List (Addr × Addr)), GxR.TabB base mg p.1 p.2) → Known (TabList.mk (List.map (·.2) ([] : List (Addr × Addr))) P w) P w K mg base 1 "_law_word" ["pool", "at"] m__law_word := fun base ht => kn__law_word (PySem.W.mg_none_of X G y_int) (PySem.W.mg_none_of X G y_str)   (d__law_word.dfn X G bo__law_word)
  exact law_finT (cs := ([] : List (Addr × Addr))) X G hfa d_law bo_law (fun p hp => nomatch hp) (fun p hp => nomatch hp) (fun base ht f fd Fn => fk_law (base := base) (PySem.W.mg_none_of X G y_int) (PySem.W.mg_none_of X G y_isinstance) (PySem.W.mg_none_of X G y_len) (PySem.W.mg_none_of X G y_list) (PySem.W.mg_none_of X G y_range) (PySem.W.mg_none_of X G y_sorted) (PySem.W.mg_none_of X G y_str)  (q__law_pool base ht) (q__law_word base ht) (q_fresh_words base ht) f fd Fn) law_true
end K42
open PySem PySem.W PyProof.Rows
set_option maxHeartbeats 0 in
theorem PySem.Challenge.cw_wishshown_k42_fresh_words_holds : PySem.Challenge.rw_wishshown_k42_fresh_words.Holds := by
  w_on; o_law; k_head; (case hw => w_witness2)
  k_fill
  refine Pyr.law_endT (l := PySem.Challenge.rw_wishshown_k42_fresh_words) (k := 2) (x := "script") rfl rfl ⟨rfl, by decide, by decide⟩ (fun w h Y => PySem.W.kIn_of Y) ?F
  case F =>
    intro w mg fa h KX G hmg tabs
    refine' K42.ends KX G hmg tabs ?vd0 ?vd1 ?vd2 ?vd3 ?vy0 ?vy1 ?vy2 ?vy3 ?vy4 ?vy5 ?vy6 ?vy7 ?vy8
    (case vd0 => exact ⟨_, _, _, _, _, _, _, _, _, _, by k_is, by k_is, by k_is, by k_is⟩)
    (case vd1 => exact ⟨_, _, _, _, _, _, _, _, _, _, by k_is, by k_is, by k_is, by k_is⟩)
    (case vd2 => exact ⟨_, _, _, _, _, _, _, _, _, _, by k_is, by k_is, by k_is, by k_is⟩)
    (case vd3 => exact ⟨_, _, _, _, _, _, _, _, _, _, by k_is, by k_is, by k_is, by k_is⟩)
    (case vy0 => k_is)
    (case vy1 => k_is)
    (case vy2 => k_is)
    (case vy3 => k_is)
    (case vy4 => k_is)
    (case vy5 => k_is)
    (case vy6 => k_is)
    (case vy7 => k_is)
    (case vy8 => k_is)


