import PyProof.Rows.All
import Wide.All
import OpenK.AllK
import Wide.FinOn
import PySem.Challenge.RW_evenlater_k12_whole_pieces_by_orbits
import HandS.Deep
import HandS.DeepEq
import HandS.Evl
import HandS.Exc
import HandS.ExcField
import HandS.ExcInit
import HandS.ExcInitHot
import HandS.ExcIs
import HandS.ExcOwn
import HandS.ForMost
import HandS.Gcd
import HandS.HotCalls
import HandS.IsInst
import HandS.RevRange
import HandS.WordsExc
import KE.KMathG
import PyProof.Rows.SetFrom
set_option Elab.async false
set_option linter.all false
set_option maxRecDepth 100000
set_option maxHeartbeats 4000000
/-! The layer of pure values: what an expression or a statement gives, told without the heap. -/
namespace VL
open PySem PySem.Spec PyProof.Rows L2
open Evl (Ex)
open L2H (RoomH HotC FnH)

inductive PV where
  | non | bl (b : Bool) | int (i : Int) | str (x : Str) | tup (xs : List PV) | lst (xs : List PV)
  /-- a caught exception: its place, its class, its own dict, its fields -/
  | exc (a C d : Addr) (ns : List Str) (xs : List PV)

abbrev Bd := Addr → Prop
/-- a list of the top's written part -/
def KL (K : PySem.W.Frag) (a : Addr) (xs : List V) : Prop :=
  ∃ (o : Obj) (its : Array Value) (n : Nat), K.lookup a = some o ∧ o.cls = .type "list" ∧ o.dict = none ∧ o.data = .seq its n ∧ its.size ≤ sizeLine ∧ Vals xs its.toList
def LsR (K : PySem.W.Frag) (H : Hp) (B : Bd) (a : Addr) (vs : List V) : Prop := (¬ B a ∧ Rd H a (.lst vs)) ∨ KL K a vs
theorem LsR.sq {K : PySem.W.Frag} {H : Hp} {B : Bd} {a : Addr} {vs : List V} (h : LsR K H B a vs) : SqL K H a vs := h.elim (fun h => .inl h.2) .inr

inductive VRs (K : PySem.W.Frag) (H : Hp) (B : Bd) : List V → List PV → Prop
  | nil : VRs K H B [] []
  | non {vs ps} : VRs K H B vs ps → VRs K H B (.non :: vs) (.non :: ps)
  | bl {b vs ps} : VRs K H B vs ps → VRs K H B (.bl b :: vs) (.bl b :: ps)
  | int {i vs ps} : VRs K H B vs ps → VRs K H B (.int i :: vs) (.int i :: ps)
  | str {x vs ps} : VRs K H B vs ps → VRs K H B (.str x :: vs) (.str x :: ps)
  | tup {a ws xs vs ps} : SqT K H a ws → VRs K H B ws xs → VRs K H B vs ps → VRs K H B (.ref a :: vs) (.tup xs :: ps)
  | lst {a ws xs vs ps} : LsR K H B a ws → VRs K H B ws xs → VRs K H B vs ps → VRs K H B (.ref a :: vs) (.lst xs :: ps)
  | exc {a C d ns ws xs vs ps} : H d = some (.xd (ns.zip ws)) → ws.length = ns.length → VRs K H B ws xs → VRs K H B vs ps → VRs K H B (.ref a :: vs) (.exc a C d ns xs :: ps)
def VR (K : PySem.W.Frag) (H : Hp) (B : Bd) (v : V) (p : PV) : Prop := VRs K H B [v] [p]

section
variable {K : PySem.W.Frag} {H H' : Hp} {B B' : Bd} {v : V} {p : PV} {vs : List V} {ps : List PV}
theorem VRs.cons (h : VR K H B v p) (t : VRs K H B vs ps) : VRs K H B (v :: vs) (p :: ps) := by
  cases h with
  | non _ => exact .non t
  | bl _ => exact .bl t
  | int _ => exact .int t
  | str _ => exact .str t
  | tup h1 h2 _ => exact .tup h1 h2 t
  | lst h1 h2 _ => exact .lst h1 h2 t
  | exc h1 h2 h3 _ => exact .exc h1 h2 h3 t
theorem VRs.head (h : VRs K H B (v :: vs) (p :: ps)) : VR K H B v p := by
  cases h with
  | non _ => exact .non .nil
  | bl _ => exact .bl .nil
  | int _ => exact .int .nil
  | str _ => exact .str .nil
  | tup h1 h2 _ => exact .tup h1 h2 .nil
  | lst h1 h2 _ => exact .lst h1 h2 .nil
  | exc h1 h2 h3 _ => exact .exc h1 h2 h3 .nil
theorem VRs.tail (h : VRs K H B (v :: vs) (p :: ps)) : VRs K H B vs ps := by
  cases h with
  | non t => exact t
  | bl t => exact t
  | int t => exact t
  | str t => exact t
  | tup _ _ t => exact t
  | lst _ _ t => exact t
  | exc _ _ _ t => exact t
theorem VRs.length (h : VRs K H B vs ps) : vs.length = ps.length := by
  induction h with
  | nil => rfl
  | non _ ih => simp [ih]
  | bl _ ih => simp [ih]
  | int _ ih => simp [ih]
  | str _ ih => simp [ih]
  | tup _ _ _ _ ih => simp [ih]
  | lst _ _ _ _ ih => simp [ih]
  | exc _ _ _ _ _ ih => simp [ih]
theorem VRs.get : ∀ {vs : List V} {ps : List PV} {i : Nat} {p : PV}, VRs K H B vs ps → ps[i]? = some p → ∃ v, vs[i]? = some v ∧ VR K H B v p
  | [], _, i, p, h, e => by cases h; simp at e
  | v :: vs, [], i, p, h, e => by cases h
  | v :: vs, q :: ps, 0, p, h, e => by
    simp at e; subst e
    exact ⟨v, rfl, h.head⟩
  | v :: vs, q :: ps, i + 1, p, h, e => by
    obtain ⟨u, h1, h2⟩ := VRs.get (i := i) h.tail (by simpa using e)
    exact ⟨u, by simpa using h1, h2⟩
theorem VRs.append {ws : List V} {qs : List PV} : ∀ {vs : List V} {ps : List PV}, VRs K H B vs ps → VRs K H B ws qs → VRs K H B (vs ++ ws) (ps ++ qs)
  | [], [], _, t => t
  | [], _ :: _, h, _ => nomatch h
  | _ :: _, [], h, _ => nomatch h
  | _ :: _, _ :: _, h, t => VRs.cons h.head (VRs.append h.tail t)
theorem VRs.set {u : V} {q : PV} (r : VR K H B u q) : ∀ {vs : List V} {ps : List PV} (i : Nat), VRs K H B vs ps → VRs K H B (vs.set i u) (ps.set i q)
  | [], [], _, _ => .nil
  | [], _ :: _, _, h => nomatch h
  | _ :: _, [], _, h => nomatch h
  | _ :: _, _ :: _, 0, h => VRs.cons r h.tail
  | _ :: _, _ :: _, i + 1, h => VRs.cons h.head (VRs.set r i h.tail)
theorem VRs.ext (e : Ex H H') (h : VRs K H B vs ps) : VRs K H' B vs ps := by
  induction h with
  | nil => exact .nil
  | non _ ih => exact .non ih
  | bl _ ih => exact .bl ih
  | int _ ih => exact .int ih
  | str _ ih => exact .str ih
  | tup a _ _ ih1 ih2 => exact .tup (Evl.ex_t e a) ih1 ih2
  | lst a _ _ ih1 ih2 => exact .lst (a.elim (fun a => .inl ⟨a.1, Evl.ex_rd e a.2⟩) .inr) ih1 ih2
  | exc a b _ _ ih1 ih2 => exact .exc (e _ _ a) b ih1 ih2
theorem VRs.anti (e : ∀ a, B' a → B a) (h : VRs K H B vs ps) : VRs K H B' vs ps := by
  induction h with
  | nil => exact .nil
  | non _ ih => exact .non ih
  | bl _ ih => exact .bl ih
  | int _ ih => exact .int ih
  | str _ ih => exact .str ih
  | tup a _ _ ih1 ih2 => exact .tup a ih1 ih2
  | lst a _ _ ih1 ih2 => exact .lst (a.elim (fun a => .inl ⟨fun z => a.1 (e _ z), a.2⟩) .inr) ih1 ih2
  | exc a b _ _ ih1 ih2 => exact .exc a b ih1 ih2
theorem rd_some {H : Hp} {a : Addr} {u : HO} (h : Rd H a u) : ∃ o, H a = some o := h.elim (fun h => ⟨_, h⟩) fun ⟨o, h⟩ => ⟨_, h⟩
/-- a new forbidden place -/
theorem VRs.grow {q : Addr} (n : H q = none) (h : VRs K H B vs ps) : VRs K H (fun a => B a ∨ a = q) vs ps := by
  induction h with
  | nil => exact .nil
  | non _ ih => exact .non ih
  | bl _ ih => exact .bl ih
  | int _ ih => exact .int ih
  | str _ ih => exact .str ih
  | tup a _ _ ih1 ih2 => exact .tup a ih1 ih2
  | lst a _ _ ih1 ih2 =>
    refine .lst (a.elim (fun a => .inl ⟨fun z => z.elim a.1 fun z => ?_, a.2⟩) .inr) ih1 ih2
    obtain ⟨o, ho⟩ := rd_some a.2
    rw [z, n] at ho
    cases ho
  | exc a b _ _ ih1 ih2 => exact .exc a b ih1 ih2
/-- the content of a forbidden list changes -/
theorem VRs.mut {q : Addr} {ys zs : List V} (b : B q) (n : H q = some (.lst ys)) (h : VRs K H B vs ps) : VRs K (upd H q (.lst zs)) B vs ps := by
  have rt : ∀ {a : Addr} {ws : List V}, Rd H a (.tup ws) → Rd (upd H q (.lst zs)) a (.tup ws) := fun {a ws} r => by
    rcases r with r | ⟨o, r⟩
    · exact .inl ((upd_ne (fun z => by rw [z, n] at r; cases r)).trans r)
    · exact .inr ⟨o, (upd_ne (fun z => by rw [z, n] at r; cases r)).trans r⟩
  have rl : ∀ {a : Addr} {ws : List V}, ¬ B a → Rd H a (.lst ws) → Rd (upd H q (.lst zs)) a (.lst ws) := fun {a ws} nb r => by
    have ne : a ≠ q := fun z => nb (z ▸ b)
    rcases r with r | ⟨o, r⟩
    · exact .inl ((upd_ne ne).trans r)
    · exact .inr ⟨o, (upd_ne ne).trans r⟩
  induction h with
  | nil => exact .nil
  | non _ ih => exact .non ih
  | bl _ ih => exact .bl ih
  | int _ ih => exact .int ih
  | str _ ih => exact .str ih
  | tup a _ _ ih1 ih2 => exact .tup (a.elim (fun a => .inl (rt a)) .inr) ih1 ih2
  | lst a _ _ ih1 ih2 => exact .lst (a.elim (fun a => .inl ⟨a.1, rl a.1 a.2⟩) .inr) ih1 ih2
  | exc a b' _ _ ih1 ih2 => exact .exc ((upd_ne (fun z => by rw [z, n] at a; cases a)).trans a) b' ih1 ih2
theorem VR.ext (e : Ex H H') (h : VR K H B v p) : VR K H' B v p := VRs.ext e h
theorem VR.anti (e : ∀ a, B' a → B a) (h : VR K H B v p) : VR K H B' v p := VRs.anti e h
theorem vr_int {i : Int} (h : VR K H B v (.int i)) : v = .int i := by cases h; rfl
theorem vr_bl {b : Bool} (h : VR K H B v (.bl b)) : v = .bl b := by cases h; rfl
theorem vr_non (h : VR K H B v .non) : v = .non := by cases h; rfl
theorem vr_str {x : Str} (h : VR K H B v (.str x)) : v = .str x := by cases h; rfl
theorem vr_tup {xs : List PV} (h : VR K H B v (.tup xs)) : ∃ a ws, v = .ref a ∧ SqT K H a ws ∧ VRs K H B ws xs := by
  cases h with
  | tup a b _ => exact ⟨_, _, rfl, a, b⟩
theorem vr_lst {xs : List PV} (h : VR K H B v (.lst xs)) : ∃ a ws, v = .ref a ∧ LsR K H B a ws ∧ VRs K H B ws xs := by
  cases h with
  | lst a b _ => exact ⟨_, _, rfl, a, b⟩
theorem vr_exc {a C d : Addr} {ns : List Str} {xs : List PV} (h : VR K H B v (.exc a C d ns xs)) : v = .ref a ∧ ∃ ws, H d = some (.xd (ns.zip ws)) ∧ ws.length = ns.length ∧ VRs K H B ws xs := by
  cases h with
  | exc h1 h2 h3 _ => exact ⟨rfl, _, h1, h2, h3⟩
theorem VR.i {i : Int} : VR K H B (.int i) (.int i) := .int .nil
theorem VR.b {b : Bool} : VR K H B (.bl b) (.bl b) := .bl .nil
theorem VR.n : VR K H B .non .non := .non .nil
theorem VR.s {x : Str} : VR K H B (.str x) (.str x) := .str .nil
theorem VR.t {a : Addr} {ws : List V} {xs : List PV} (h : SqT K H a ws) (r : VRs K H B ws xs) : VR K H B (.ref a) (.tup xs) := .tup h r .nil
theorem VR.l {a : Addr} {ws : List V} {xs : List PV} (h : LsR K H B a ws) (r : VRs K H B ws xs) : VR K H B (.ref a) (.lst xs) := .lst h r .nil
theorem VRs.ints : ∀ {ns : List Int}, VRs K H B (ns.map V.int) (ns.map PV.int)
  | [] => .nil
  | _ :: _ => .int VRs.ints
end

/-! ### slots -/
inductive Sl where
  | no | val (p : PV) | own (xs : List PV)
/-- what lies under a body: what may not be touched, the heap at its entry, values that are kept by -/
structure Und where
  B0 : Bd
  H0 : Hp
  gs : List (V × PV)
structure EnvR (K : PySem.W.Frag) (U : Und) (B : Bd) (H : Hp) (σ : L2.St) (ρ : List Sl) : Prop where
  len : σ.length = ρ.length
  up : ∀ b, U.B0 b → B b
  trk0 : ∀ b, U.B0 b → ∃ o, U.H0 b = some o
  trk : ∀ b, B b → ∃ o, H b = some o
  ex : Ex U.H0 H
  gh : ∀ g ∈ U.gs, VR K H B g.1 g.2
  val : ∀ (i : Nat) (p : PV), ρ[i]? = some (.val p) → ∃ v, σ[i]? = some (some v) ∧ VR K H B v p
  own : ∀ (i : Nat) (xs : List PV), ρ[i]? = some (.own xs) → ∃ a vs, σ[i]? = some (some (.ref a)) ∧ H a = some (.lst vs) ∧ B a ∧ U.H0 a = none ∧ VRs K H B vs xs
  dis : ∀ (i j : Nat) (xs ys : List PV) (a : Addr), ρ[i]? = some (.own xs) → ρ[j]? = some (.own ys) → σ[i]? = some (some (.ref a)) → σ[j]? = some (some (.ref a)) → i = j
section
variable {K : PySem.W.Frag} {U : Und} {B : Bd} {H H' : Hp} {σ : L2.St} {ρ : List Sl}
theorem EnvR.mono (E : EnvR K U B H σ ρ) (e : Ex H H') : EnvR K U B H' σ ρ where
  len := E.len
  up := E.up
  trk0 := E.trk0
  trk := fun b z => let ⟨o, h⟩ := E.trk b z; ⟨o, e _ _ h⟩
  ex := E.ex.trans e
  gh := fun g h => (E.gh g h).ext e
  val := fun i p h => let ⟨v, a, b⟩ := E.val i p h; ⟨v, a, b.ext e⟩
  own := fun i xs h => let ⟨a, vs, h1, h2, h3, h4, h5⟩ := E.own i xs h; ⟨a, vs, h1, e _ _ h2, h3, h4, h5.ext e⟩
  dis := E.dis
theorem EnvR.fresh (E : EnvR K U B H σ ρ) {a : Addr} (n : H a = none) : ¬ B a := fun z => by
  obtain ⟨o, h⟩ := E.trk a z
  rw [n] at h
  cases h
/-- a slot is set -/
theorem EnvR.set (E : EnvR K U B H σ ρ) {i : Nat} {v : V} {p : PV} (r : VR K H B v p) : EnvR K U B H (σ.set i (some v)) (ρ.set i (.val p)) where
  len := by rw [List.length_set, List.length_set]; exact E.len
  up := E.up
  trk0 := E.trk0
  trk := E.trk
  ex := E.ex
  gh := E.gh
  val := fun j q h => by
    by_cases e : i = j
    · subst e
      have hl : i < ρ.length := by
        rcases Nat.lt_or_ge i ρ.length with hl | hl
        · exact hl
        · rw [List.getElem?_eq_none (by rw [List.length_set]; exact hl)] at h; cases h
      rw [List.getElem?_set_self hl] at h
      cases h
      exact ⟨v, List.getElem?_set_self (by rw [E.len]; exact hl), r⟩
    · rw [List.getElem?_set_ne e] at h
      rw [List.getElem?_set_ne e]
      exact E.val j q h
  own := fun j xs h => by
    by_cases e : i = j
    · subst e
      by_cases hl : i < ρ.length
      · rw [List.getElem?_set_self hl] at h; cases h
      · rw [List.getElem?_eq_none (by rw [List.length_set]; exact Nat.le_of_not_lt hl)] at h; cases h
    · rw [List.getElem?_set_ne e] at h
      rw [List.getElem?_set_ne e]
      exact E.own j xs h
  dis := fun j k xs ys a h1 h2 => by
    have ne : ∀ {j : Nat} {xs : List PV}, (ρ.set i (.val p))[j]? = some (.own xs) → i ≠ j := fun {j xs} h e => by
      subst e
      by_cases hl : i < ρ.length
      · rw [List.getElem?_set_self hl] at h; cases h
      · rw [List.getElem?_eq_none (by rw [List.length_set]; exact Nat.le_of_not_lt hl)] at h; cases h
    have n1 := ne h1
    have n2 := ne h2
    rw [List.getElem?_set_ne n1] at h1 ⊢
    rw [List.getElem?_set_ne n2] at h2 ⊢
    exact E.dis j k xs ys a h1 h2
end

/-! ### where one stands -/
structure Gam where
  P : Program
  w : World
  K : PySem.W.Frag
  mg : Str → Option Value
  base : Heap
  N : List Str
  sc : Scope
  fn : Str → Bool
  k : Nat
  calm : Bool
  ex : Cx → Prop
structure Fits (G : Gam) (X : Cx) : Prop where
  prog : X.prog = G.P
  w : X.w = G.w
  K : X.K = G.K
  mg : X.mg = G.mg
  base : X.base = G.base
  N : X.N = G.N
  sc : X.env.scope = G.sc
  fn : X.fn = G.fn
  calm : X.calm = G.calm
  nd : G.N.Nodup
  roomH : RoomH G.k X.A
  room : G.calm = true → Room G.k X.A
  hot : G.calm = false → HotC X
  ex : G.ex X

/-! ### what is asked, as it is -/
@[irreducible] def wE (X : Cx) (e : Expr) : TE := fun σ H Q => ∀ (pins : List (Addr × Obj)) (s : Shared), Inv X pins σ H s → wpAny (model X.prog X.w) X.A (eval e X.env) (EP X pins σ Q) X.xe s
@[irreducible] def wT (X : Cx) (e : Expr) : TT := fun σ H Q => ∀ (pins : List (Addr × Obj)) (s : Shared), Inv X pins σ H s → wpAny (model X.prog X.w) X.A (isTrue e X.env (eval e X.env)) (TP X pins σ Q) X.xe s
@[irreducible] def wW (X : Cx) (e : Expr) : TT := fun σ H Q => ∀ (whole : Sem Value) (pins : List (Addr × Obj)) (s : Shared), Inv X pins σ H s → wpAny (model X.prog X.w) X.A (isTrue e X.env whole) (TP X pins σ Q) X.xe s
@[irreducible] def wA (X : Cx) (es : List Expr) : TA := fun σ H Q => ∀ (pos : Pos) (pins : List (Addr × Obj)) (s : Shared), Inv X pins σ H s → wpAny (model X.prog X.w) X.A (spliced (backTo pos (starEach es X.env))) (AP X pins σ Q) X.xe s
@[irreducible] def wS (X : Cx) (st : Stmt) : TS := fun D σ H => ∀ (pins : List (Addr × Obj)) (s : Shared), Inv X pins σ H s → wpAny (model X.prog X.w) X.A (exec st X.env) (SP X pins D) X.xe s
@[irreducible] def wB (X : Cx) (st : List Stmt) : TS := fun D σ H => ∀ (pins : List (Addr × Obj)) (s : Shared), Inv X pins σ H s → wpAny (model X.prog X.w) X.A (execs st X.env) (SP X pins D) X.xe s
section
variable {X : Cx} {e : Expr} {es : List Expr} {st : Stmt} {sts : List Stmt} {σ : L2.St} {H : Hp}
theorem pe_w : PE X e (wE X e) := ⟨fun pins s _ _ _ I h => by
  unfold wE at h
  exact h pins s I⟩
theorem pt_w : PT X e (wT X e) := ⟨fun pins s _ _ _ I h => by
  unfold wT at h
  exact h pins s I⟩
theorem pw_w : PW X e (wW X e) := ⟨fun wh pins s _ _ _ I h => by
  unfold wW at h
  exact h wh pins s I⟩
theorem pa_w : PA X es (wA X es) := ⟨fun pos pins s _ _ _ I h => by
  unfold wA at h
  exact h pos pins s I⟩
theorem ps_w : PS X st (wS X st) := ⟨fun pins s _ _ _ I h => by
  unfold wS at h
  exact h pins s I⟩
theorem pss_w : PSs X sts (wB X sts) := ⟨fun pins s _ _ _ I h => by
  unfold wB at h
  exact h pins s I⟩
theorem of_pe {t : TE} {Q : VK} (h : PE X e t) (q : t σ H Q) : wE X e σ H Q := by
  unfold wE
  exact fun pins s I => h.run pins s σ H Q I q
theorem of_pt {t : TT} {Q : Bool → Hp → Prop} (h : PT X e t) (q : t σ H Q) : wT X e σ H Q := by
  unfold wT
  exact fun pins s I => h.run pins s σ H Q I q
theorem of_pw {t : TT} {Q : Bool → Hp → Prop} (h : PW X e t) (q : t σ H Q) : wW X e σ H Q := by
  unfold wW
  exact fun wh pins s I => h.run wh pins s σ H Q I q
theorem of_pa {t : TA} {Q : List V → Hp → Prop} (h : PA X es t) (q : t σ H Q) : wA X es σ H Q := by
  unfold wA
  exact fun pos pins s I => h.run pos pins s σ H Q I q
theorem of_ps {t : TS} {D : Ends} (h : PS X st t) (q : t D σ H) : wS X st D σ H := by
  unfold wS
  exact fun pins s I => h.run pins s σ H D I q
theorem of_pss {t : TS} {D : Ends} (h : PSs X sts t) (q : t D σ H) : wB X sts D σ H := by
  unfold wB
  exact fun pins s I => h.run pins s σ H D I q
end

/-! ### what comes of it -/
def EV (G : Gam) (ρ : List Sl) (e : Expr) (p : PV) : Prop := ∀ X, Fits G X → ∀ (U : Und) (B : Bd) (σ : L2.St) (H : Hp) (Q : VK), EnvR G.K U B H σ ρ → (∀ v H', Ex H H' → VR G.K H' B v p → Q v H') → wE X e σ H Q
def TV (G : Gam) (ρ : List Sl) (e : Expr) (b : Bool) : Prop := ∀ X, Fits G X → ∀ (U : Und) (B : Bd) (σ : L2.St) (H : Hp) (Q : Bool → Hp → Prop), EnvR G.K U B H σ ρ → (∀ H', Ex H H' → Q b H') → wT X e σ H Q
def WV (G : Gam) (ρ : List Sl) (e : Expr) (b : Bool) : Prop := ∀ X, Fits G X → ∀ (U : Und) (B : Bd) (σ : L2.St) (H : Hp) (Q : Bool → Hp → Prop), EnvR G.K U B H σ ρ → (∀ H', Ex H H' → Q b H') → wW X e σ H Q
def AV (G : Gam) (ρ : List Sl) (es : List Expr) (ps : List PV) : Prop := ∀ X, Fits G X → ∀ (U : Und) (B : Bd) (σ : L2.St) (H : Hp) (Q : List V → Hp → Prop), EnvR G.K U B H σ ρ → (∀ vs H', Ex H H' → VRs G.K H' B vs ps → Q vs H') → wA X es σ H Q
end VL

namespace VL
open PySem PySem.Spec PyProof.Rows L2
open Evl (Ex)
open L2H (RoomH HotC FnH)
section
variable {G : Gam} {ρ : List Sl} {a b c e : Expr} {es rest : List Expr} {pos : Pos} {i j : Int} {p q r : PV} {x y : Bool}
/-! ### names, constants -/
theorem ev_var {n : Nat} {x : Str} (hN : G.N[n]? = some x) (hv : Vis G.sc x) (h : ρ[n]? = some (.val p)) (hd : (x == ("__debug__" : Str)) = false := by decide) (hc : (x == ("__classdict__" : Str)) = false := by decide) : EV G ρ (.Name x pos) p := by
  intro X hX U B σ H Q E q
  obtain ⟨v, e, r⟩ := E.val n p h
  exact of_pe (pe_var (i := n) (by rw [hX.N]; exact hN) (by rw [hX.sc]; exact hv) hd hc) ⟨v, e, q v H (Ex.refl H) r⟩
theorem ev_int {k : Nat} : EV G ρ (.Constant (.int i) k pos) (.int i) := fun X hX U B σ H Q E q => of_pe pe_int (q _ H (Ex.refl H) .i)
theorem ev_bl {k : Nat} : EV G ρ (.Constant (.bool x) k pos) (.bl x) := fun X hX U B σ H Q E q => of_pe pe_bl (q _ H (Ex.refl H) .b)
theorem ev_non {k : Nat} : EV G ρ (.Constant .none k pos) .non := fun X hX U B σ H Q E q => of_pe pe_non (q _ H (Ex.refl H) .n)
theorem ev_str {k : Nat} {z : Str} : EV G ρ (.Constant (.str z) k pos) (.str z) := fun X hX U B σ H Q E q => of_pe pe_str (q _ H (Ex.refl H) .s)
/-! ### two values and an operation on them -/
theorem ev2 {t : TE → TE → TE} {R : V → V → Hp → VK → Prop} (hp : ∀ X, Fits G X → PE X e (fun σ H Q => wE X a σ H fun v H1 => wE X b σ H1 fun w H2 => R v w H2 Q)) (ha : EV G ρ a p) (hb : EV G ρ b q)
    (hR : ∀ (B : Bd) v w H (Q : VK), VR G.K H B v p → VR G.K H B w q → (∀ z H', Ex H H' → VR G.K H' B z r → Q z H') → R v w H Q) : EV G ρ e r := by
  intro X hX U B σ H Q E k
  refine of_pe (hp X hX) ?_
  refine ha X hX _ _ _ _ _ E fun v H1 e1 r1 => ?_
  refine hb X hX _ _ _ _ _ (E.mono e1) fun w H2 e2 r2 => ?_
  exact hR B v w H2 Q (r1.ext e2) r2 fun z H3 e3 r3 => k z H3 ((e1.trans e2).trans e3) r3
theorem ev_op {op : Operator} {R : R2} (ho : ∀ X, Fits G X → OpR X (binaryOp op) R) (ha : EV G ρ a p) (hb : EV G ρ b q)
    (hR : ∀ (B : Bd) v w H (Q : VK), VR G.K H B v p → VR G.K H B w q → (∀ z H', Ex H H' → VR G.K H' B z r → Q z H') → R v w H Q) : EV G ρ (.BinOp a op b pos) r :=
  ev2 (t := fun _ _ _ _ _ => True) (fun X hX => pe_op (ho X hX) pe_w pe_w) ha hb hR
theorem ev_add (ha : EV G ρ a (.int i)) (hb : EV G ρ b (.int j)) : EV G ρ (.BinOp a .Add b pos) (.int (i + j)) :=
  ev_op (fun _ _ => op_add) ha hb fun B v w H Q r1 r2 k => ⟨i, j, vr_int r1, vr_int r2, k _ _ (Ex.refl H) .i⟩
theorem ev_sub (ha : EV G ρ a (.int i)) (hb : EV G ρ b (.int j)) : EV G ρ (.BinOp a .Sub b pos) (.int (i - j)) :=
  ev_op (fun _ _ => op_sub) ha hb fun B v w H Q r1 r2 k => ⟨i, j, vr_int r1, vr_int r2, k _ _ (Ex.refl H) .i⟩
theorem ev_mul (ha : EV G ρ a (.int i)) (hb : EV G ρ b (.int j)) (hc : CMul i j) : EV G ρ (.BinOp a .Mult b pos) (.int (i * j)) :=
  ev_op (fun _ _ => op_mul) ha hb fun B v w H Q r1 r2 k => ⟨i, j, vr_int r1, vr_int r2, hc, k _ _ (Ex.refl H) .i⟩
theorem ev_fdiv (ha : EV G ρ a (.int i)) (hb : EV G ρ b (.int j)) (hc : CDiv i j) : EV G ρ (.BinOp a .FloorDiv b pos) (.int (i / j)) :=
  ev_op (fun _ _ => op_fdiv) ha hb fun B v w H Q r1 r2 k => ⟨i, j, vr_int r1, vr_int r2, hc, k _ _ (Ex.refl H) .i⟩
theorem ev_mod (ha : EV G ρ a (.int i)) (hb : EV G ρ b (.int j)) (hc : 0 < j) : EV G ρ (.BinOp a .Mod b pos) (.int (i % j)) :=
  ev_op (fun _ _ => op_mod) ha hb fun B v w H Q r1 r2 k => ⟨i, j, vr_int r1, vr_int r2, hc, k _ _ (Ex.refl H) .i⟩
theorem ev_neg (ha : EV G ρ a (.int i)) : EV G ρ (.UnaryOp .USub a pos) (.int (-i)) := by
  intro X hX U B σ H Q E k
  refine of_pe (pe_un un_neg pe_w) (ha X hX _ _ _ _ _ E fun v H1 e1 r1 => ?_)
  exact ⟨i, vr_int r1, k _ _ e1 .i⟩
/-! ### comparisons -/
theorem ev_cmp {op : CmpOp} {R : R2} (ho : ∀ X, Fits G X → OpR X (compareOp op) R) (ha : EV G ρ a p) (hb : EV G ρ b q) (hm : behindInMarks op b = false)
    (hR : ∀ (B : Bd) v w H (Q : VK), VR G.K H B v p → VR G.K H B w q → Q (.bl x) H → R v w H Q) : EV G ρ (.Compare a [op] [b] pos) (.bl x) :=
  ev2 (t := fun _ _ _ _ _ => True) (fun X hX => pe_cmpR (ho X hX) pe_w pe_w hm) ha hb fun B v w H Q r1 r2 k => hR B v w H Q r1 r2 (k _ _ (Ex.refl H) .b)
theorem tv_cmp {op : CmpOp} {R : R2} (ho : ∀ X, Fits G X → OpR X (compareOp op) R) (ha : EV G ρ a p) (hb : EV G ρ b q) (hm : behindInMarks op b = false)
    (hR : ∀ (B : Bd) v w H (Q : VK), VR G.K H B v p → VR G.K H B w q → Q (.bl x) H → R v w H Q) : TV G ρ (.Compare a [op] [b] pos) x := by
  intro X hX U B σ H Q E k
  refine of_pt (pt_cmpR (ho X hX) pe_w pe_w hm) ?_
  refine ha X hX _ _ _ _ _ E fun v H1 e1 r1 => ?_
  refine hb X hX _ _ _ _ _ (E.mono e1) fun w H2 e2 r2 => ?_
  exact hR B v w H2 _ (r1.ext e2) r2 ⟨x, rfl, k H2 (e1.trans e2)⟩
/-- a comparison as a value and as a test -/
structure CV (G : Gam) (ρ : List Sl) (e : Expr) (x : Bool) : Prop where
  ev : EV G ρ e (.bl x)
  tv : TV G ρ e x
theorem cv_cmp {op : CmpOp} {R : R2} (ho : ∀ X, Fits G X → OpR X (compareOp op) R) (ha : EV G ρ a p) (hb : EV G ρ b q) (hm : behindInMarks op b = false)
    (hR : ∀ (B : Bd) v w H (Q : VK), VR G.K H B v p → VR G.K H B w q → Q (.bl x) H → R v w H Q) : CV G ρ (.Compare a [op] [b] pos) x := ⟨ev_cmp ho ha hb hm hR, tv_cmp ho ha hb hm hR⟩
variable (hm : behindInMarks .Eq b = false := by first | rfl | exact nobehind _ (by decide) (by decide))
theorem cv_eqi (ha : EV G ρ a (.int i)) (hb : EV G ρ b (.int j)) (hm : behindInMarks .Eq b = false := by first | rfl | exact nobehind _ (by decide) (by decide)) : CV G ρ (.Compare a [.Eq] [b] pos) (decide (i = j)) :=
  cv_cmp (fun _ _ => op_eq) ha hb hm fun B v w H Q r1 r2 k => by
    rw [vr_int r1, vr_int r2]
    refine ⟨rfl, ?_⟩
    rw [show decide (V.int i = V.int j) = decide (i = j) from by simp]
    exact k
theorem cv_nei (ha : EV G ρ a (.int i)) (hb : EV G ρ b (.int j)) (hm : behindInMarks .NotEq b = false := by first | rfl | exact nobehind _ (by decide) (by decide)) : CV G ρ (.Compare a [.NotEq] [b] pos) (!decide (i = j)) :=
  cv_cmp (fun _ _ => op_ne) ha hb hm fun B v w H Q r1 r2 k => by
    rw [vr_int r1, vr_int r2]
    refine ⟨rfl, ?_⟩
    rw [show decide (V.int i = V.int j) = decide (i = j) from by simp]
    exact k
theorem cv_eqb (ha : EV G ρ a (.bl x)) (hb : EV G ρ b (.bl y)) (hm : behindInMarks .Eq b = false := by first | rfl | exact nobehind _ (by decide) (by decide)) : CV G ρ (.Compare a [.Eq] [b] pos) (decide (x = y)) :=
  cv_cmp (fun _ _ => op_eq) ha hb hm fun B v w H Q r1 r2 k => by
    rw [vr_bl r1, vr_bl r2]
    refine ⟨rfl, ?_⟩
    rw [show decide (V.bl x = V.bl y) = decide (x = y) from by simp]
    exact k
theorem cv_eqs {z z' : Str} (ha : EV G ρ a (.str z)) (hb : EV G ρ b (.str z')) (hm : behindInMarks .Eq b = false := by first | rfl | exact nobehind _ (by decide) (by decide)) : CV G ρ (.Compare a [.Eq] [b] pos) (decide (z = z')) :=
  cv_cmp (fun _ _ => op_eq) ha hb hm fun B v w H Q r1 r2 k => by
    rw [vr_str r1, vr_str r2]
    refine ⟨rfl, ?_⟩
    rw [show decide (V.str z = V.str z') = decide (z = z') from by simp]
    exact k
theorem cv_lt (ha : EV G ρ a (.int i)) (hb : EV G ρ b (.int j)) (hm : behindInMarks .Lt b = false := by first | rfl | exact nobehind _ (by decide) (by decide)) : CV G ρ (.Compare a [.Lt] [b] pos) (decide (i < j)) :=
  cv_cmp (fun _ _ => op_lt) ha hb hm fun B v w H Q r1 r2 k => ⟨i, j, vr_int r1, vr_int r2, k⟩
theorem cv_le (ha : EV G ρ a (.int i)) (hb : EV G ρ b (.int j)) (hm : behindInMarks .LtE b = false := by first | rfl | exact nobehind _ (by decide) (by decide)) : CV G ρ (.Compare a [.LtE] [b] pos) (decide (i ≤ j)) :=
  cv_cmp (fun _ _ => op_le) ha hb hm fun B v w H Q r1 r2 k => ⟨i, j, vr_int r1, vr_int r2, k⟩
theorem cv_gt (ha : EV G ρ a (.int i)) (hb : EV G ρ b (.int j)) (hm : behindInMarks .Gt b = false := by first | rfl | exact nobehind _ (by decide) (by decide)) : CV G ρ (.Compare a [.Gt] [b] pos) (decide (j < i)) :=
  cv_cmp (fun _ _ => op_gt) ha hb hm fun B v w H Q r1 r2 k => ⟨i, j, vr_int r1, vr_int r2, k⟩
theorem cv_ge (ha : EV G ρ a (.int i)) (hb : EV G ρ b (.int j)) (hm : behindInMarks .GtE b = false := by first | rfl | exact nobehind _ (by decide) (by decide)) : CV G ρ (.Compare a [.GtE] [b] pos) (decide (j ≤ i)) :=
  cv_cmp (fun _ _ => op_ge) ha hb hm fun B v w H Q r1 r2 k => ⟨i, j, vr_int r1, vr_int r2, k⟩
def PV.isNon : PV → Bool
  | .non => true
  | _ => false
theorem cv_isN (ha : EV G ρ a p) (hb : EV G ρ b .non) (hm : behindInMarks .Is b = false := by first | rfl | exact nobehind _ (by decide) (by decide)) : CV G ρ (.Compare a [.Is] [b] pos) p.isNon :=
  cv_cmp (fun _ _ => op_isN) ha hb hm fun B v w H Q r1 r2 k => by
    refine ⟨vr_non r2, ?_⟩
    rw [show decide (v = V.non) = p.isNon from by cases r1 <;> rfl]
    exact k
/-- a <= b <= c of ints -/
theorem ev_chain_le {k : Int} (ha : EV G ρ a (.int i)) (hb : EV G ρ b (.int j)) (hc : EV G ρ c (.int k)) (hm : lastMarks [.LtE, .LtE] [b, c] = false := by with_unfolding_all rfl) :
    EV G ρ (.Compare a [.LtE, .LtE] [b, c] pos) (.bl (decide (i ≤ j) && decide (j ≤ k))) := by
  intro X hX U B σ H Q E q
  refine of_pe (pe_chain op_le op_le pe_w pe_w pe_w hm) ?_
  refine ha X hX _ _ _ _ _ E fun v H1 e1 r1 => ?_
  refine hb X hX _ _ _ _ _ (E.mono e1) fun w H2 e2 r2 => ?_
  refine ⟨i, j, vr_int r1, vr_int r2, decide (i ≤ j), rfl, ?_⟩
  by_cases h : i ≤ j
  · rw [decide_eq_true h, if_pos rfl]
    refine hc X hX _ _ _ _ _ (E.mono (e1.trans e2)) fun z H3 e3 r3 => ?_
    exact ⟨j, k, vr_int r2, vr_int r3, q _ _ ((e1.trans e2).trans e3) (by rw [decide_eq_true h, Bool.true_and]; exact .b)⟩
  · rw [decide_eq_false h, if_neg Bool.false_ne_true]
    exact q _ _ (e1.trans e2) (by rw [decide_eq_false h, Bool.false_and]; exact .b)
/-! ### and, or, not -/
theorem ev_one {op : BoolOp} (ha : EV G ρ a p) : EV G ρ (.BoolOp op [a] pos) p := fun X hX U B σ H Q E q => of_pe (pe_one pe_w) (ha X hX _ _ _ _ _ E q)
theorem ev_and (ha : EV G ρ a (.bl x)) (hb : x = true → EV G ρ (.BoolOp .And (b :: rest) pos) (.bl y)) : EV G ρ (.BoolOp .And (a :: b :: rest) pos) (.bl (x && y)) := by
  intro X hX U B σ H Q E q
  refine of_pe (pe_and pe_w pe_w) (ha X hX _ _ _ _ _ E fun v H1 e1 r1 => ⟨x, vr_bl r1, ?_⟩)
  cases x with
  | true => exact (if_pos rfl).mpr (hb rfl X hX _ _ _ _ _ (E.mono e1) fun v H2 e2 r2 => q v H2 (e1.trans e2) r2)
  | false => exact (if_neg Bool.false_ne_true).mpr (q _ _ e1 .b)
theorem ev_or (ha : EV G ρ a (.bl x)) (hb : x = false → EV G ρ (.BoolOp .Or (b :: rest) pos) (.bl y)) : EV G ρ (.BoolOp .Or (a :: b :: rest) pos) (.bl (x || y)) := by
  intro X hX U B σ H Q E q
  refine of_pe (pe_or pe_w pe_w) (ha X hX _ _ _ _ _ E fun v H1 e1 r1 => ⟨x, vr_bl r1, ?_⟩)
  cases x with
  | false => exact (if_neg Bool.false_ne_true).mpr (hb rfl X hX _ _ _ _ _ (E.mono e1) fun v H2 e2 r2 => q v H2 (e1.trans e2) r2)
  | true => exact (if_pos rfl).mpr (q _ _ e1 .b)
theorem ev_not (ha : EV G ρ a (.bl x)) : EV G ρ (.UnaryOp .Not a pos) (.bl (!x)) := fun X hX U B σ H Q E q =>
  of_pe (pe_not pe_w) (ha X hX _ _ _ _ _ E fun v H1 e1 r1 => ⟨x, vr_bl r1, q _ _ e1 .b⟩)
theorem tv_val (ha : EV G ρ a (.bl x)) (he : ∀ (env : Env) whole, isTrue a env whole = (do let v ← whole; standAt a.pos; holding [v] (truthy v)) := by intro _ _; rfl) : TV G ρ a x := fun X hX U B σ H Q E q =>
  of_pt (pt_val pe_w (he X.env)) (ha X hX _ _ _ _ _ E fun v H1 e1 r1 => ⟨x, vr_bl r1, q _ e1⟩)
theorem tv_not (ha : TV G ρ a x) : TV G ρ (.UnaryOp .Not a pos) (!x) := fun X hX U B σ H Q E q => of_pt (pt_not pt_w) (ha X hX _ _ _ _ _ E fun H1 e1 => q H1 e1)
theorem wv_and1 (ha : TV G ρ a x) : WV G ρ (.BoolOp .And [a] pos) x := fun X hX U B σ H Q E q => of_pw (pw_and1 pt_w) (ha X hX _ _ _ _ _ E q)
theorem wv_or1 (ha : TV G ρ a x) : WV G ρ (.BoolOp .Or [a] pos) x := fun X hX U B σ H Q E q => of_pw (pw_or1 pt_w) (ha X hX _ _ _ _ _ E q)
theorem wv_and (ha : TV G ρ a x) (hb : x = true → WV G ρ (.BoolOp .And (b :: rest) pos) y) : WV G ρ (.BoolOp .And (a :: b :: rest) pos) (x && y) := by
  intro X hX U B σ H Q E q
  refine of_pw (pw_and pt_w pw_w) (ha X hX _ _ _ _ _ E fun H1 e1 => ?_)
  cases x with
  | true => exact (if_pos rfl).mpr (hb rfl X hX _ _ _ _ _ (E.mono e1) fun H2 e2 => q H2 (e1.trans e2))
  | false => exact (if_neg Bool.false_ne_true).mpr (q _ e1)
theorem wv_or (ha : TV G ρ a x) (hb : x = false → WV G ρ (.BoolOp .Or (b :: rest) pos) y) : WV G ρ (.BoolOp .Or (a :: b :: rest) pos) (x || y) := by
  intro X hX U B σ H Q E q
  refine of_pw (pw_or pt_w pw_w) (ha X hX _ _ _ _ _ E fun H1 e1 => ?_)
  cases x with
  | false => exact (if_neg Bool.false_ne_true).mpr (hb rfl X hX _ _ _ _ _ (E.mono e1) fun H2 e2 => q H2 (e1.trans e2))
  | true => exact (if_pos rfl).mpr (q _ e1)
theorem tv_w (h : WV G ρ a x) : TV G ρ a x := fun X hX U B σ H Q E q => of_pt pw_w.pt (h X hX _ _ _ _ _ E q)
theorem ev_ifx (hc : TV G ρ c x) (ha : x = true → EV G ρ a p) (hb : x = false → EV G ρ b p) : EV G ρ (.IfExp c a b pos) p := by
  intro X hX U B σ H Q E q
  refine of_pe (pe_ifExp pt_w pe_w pe_w) (hc X hX _ _ _ _ _ E fun H1 e1 => ?_)
  cases x with
  | true => exact (if_pos rfl).mpr (ha rfl X hX _ _ _ _ _ (E.mono e1) fun v H2 e2 r2 => q v H2 (e1.trans e2) r2)
  | false => exact (if_neg Bool.false_ne_true).mpr (hb rfl X hX _ _ _ _ _ (E.mono e1) fun v H2 e2 r2 => q v H2 (e1.trans e2) r2)
/-! ### rows of expressions, displays -/
theorem av_nil : AV G ρ [] [] := fun X hX U B σ H Q E q => of_pa pa_nil (q _ _ (Ex.refl H) .nil)
theorem av_cons {ps : List PV} (ha : EV G ρ a p) (hr : AV G ρ es ps) (hs : ∀ env, starEach (a :: es) env = (false, eval a env) :: starEach es env := by intro _; rfl) : AV G ρ (a :: es) (p :: ps) := fun X hX U B σ H Q E q =>
  of_pa (pa_cons pe_w pa_w (hs X.env)) (ha X hX _ _ _ _ _ E fun v H1 e1 r1 => hr X hX _ _ _ _ _ (E.mono e1) fun vs H2 e2 r2 => q _ _ (e1.trans e2) (VRs.cons (r1.ext e2) r2))
theorem ev_tup {ps : List PV} {k : Nat} (ha : AV G ρ es ps) (hl : ps.length ≤ 100000) : EV G ρ (.Tuple es k pos) (.tup ps) := fun X hX U B σ H Q E q =>
  of_pe (pe_tup pa_w) (ha X hX _ _ _ _ _ E fun vs H1 e1 r1 => ⟨Evl.sz_of (by rw [r1.length]; exact hl), fun t nt => q _ _ (e1.trans (Ex.new nt)) (.t (Evl.st_of upd_same) (r1.ext (Ex.new nt)))⟩)
theorem EnvR.lsr {U : Und} {B : Bd} {H H1 : Hp} {σ : L2.St} (E : EnvR G.K U B H σ ρ) (e : Ex H H1) {l : Addr} {vs : List V} (n : H1 l = none) : LsR G.K (upd H1 l (.lst vs)) B l vs :=
  .inl ⟨(E.mono e).fresh n, .inl upd_same⟩
theorem ev_lst {ps : List PV} (ha : AV G ρ es ps) (hl : ps.length ≤ 100000) : EV G ρ (.List es pos) (.lst ps) := fun X hX U B σ H Q E q =>
  of_pe (pe_lst pa_w) (ha X hX _ _ _ _ _ E fun vs H1 e1 r1 => ⟨Evl.sz_of (by rw [r1.length]; exact hl), fun t nt => q _ _ (e1.trans (Ex.new nt)) (.l (E.lsr e1 nt) (r1.ext (Ex.new nt)))⟩)
/-! ### items -/
theorem atI_get {vs : List V} {ps : List PV} {K : PySem.W.Frag} {H : Hp} {B : Bd} {n : Nat} (r : VRs K H B vs ps) (h : ps[n]? = some p) : ∃ v, atI vs (n : Int) = some v ∧ VR K H B v p := by
  obtain ⟨v, h1, h2⟩ := r.get h
  exact ⟨v, atI_nat h1, h2⟩

/-- a list that may be read: a value, or a slot's own -/
def LV (G : Gam) (ρ : List Sl) (e : Expr) (xs : List PV) : Prop := ∀ X, Fits G X → ∀ (U : Und) (B : Bd) (σ : L2.St) (H : Hp) (Q : VK), EnvR G.K U B H σ ρ →
  (∀ l vs H', Ex H H' → SqL G.K H' l vs → VRs G.K H' B vs xs → Q (.ref l) H') → wE X e σ H Q
theorem lv_val {xs : List PV} (h : EV G ρ a (.lst xs)) : LV G ρ a xs := fun X hX U B σ H Q E q => h X hX _ _ _ _ _ E fun v H1 e1 r1 => by
  obtain ⟨l, ws, rfl, hl, rs⟩ := vr_lst r1
  exact q l ws H1 e1 hl.sq rs
theorem lv_own {xs : List PV} {n : Nat} {x : Str} (hN : G.N[n]? = some x) (hv : Vis G.sc x) (h : ρ[n]? = some (.own xs)) (hd : (x == ("__debug__" : Str)) = false := by decide) (hc : (x == ("__classdict__" : Str)) = false := by decide) : LV G ρ (.Name x pos) xs := by
  intro X hX U B σ H Q E q
  obtain ⟨l, vs, e1, e2, _, _, r⟩ := E.own n xs h
  exact of_pe (pe_var (i := n) (by rw [hX.N]; exact hN) (by rw [hX.sc]; exact hv) hd hc) ⟨_, e1, q l vs H (Ex.refl H) (Evl.sq_of e2) r⟩
/-- a list or a tuple that may be read -/
def QV (G : Gam) (ρ : List Sl) (e : Expr) (xs : List PV) : Prop := ∀ X, Fits G X → ∀ (U : Und) (B : Bd) (σ : L2.St) (H : Hp) (Q : VK), EnvR G.K U B H σ ρ →
  (∀ l vs H', Ex H H' → (SqL G.K H' l vs ∨ SqT G.K H' l vs) → VRs G.K H' B vs xs → Q (.ref l) H') → wE X e σ H Q
theorem qv_l {xs : List PV} (h : LV G ρ a xs) : QV G ρ a xs := fun X hX U B σ H Q E q => h X hX _ _ _ _ _ E fun l vs H1 e1 hl rs => q l vs H1 e1 (.inl hl) rs
theorem qv_t {xs : List PV} (h : EV G ρ a (.tup xs)) : QV G ρ a xs := fun X hX U B σ H Q E q => h X hX _ _ _ _ _ E fun v H1 e1 r1 => by
  obtain ⟨l, ws, rfl, hl, rs⟩ := vr_tup r1
  exact q l ws H1 e1 (.inr hl) rs
theorem ev_ixT {ps : List PV} {n : Nat} (ha : EV G ρ a (.tup ps)) (hb : EV G ρ b (.int i)) (hi : i = (n : Int)) (h : ps[n]? = some p) (hs : PlainIx b := by exact fun _ _ => rfl) : EV G ρ (.Subscript a b pos) p := by
  intro X hX U B σ H Q E k
  refine of_pe (pe_ix ix_tup pe_w pe_w hs) ?_
  refine ha X hX _ _ _ _ _ E fun v H1 e1 r1 => hb X hX _ _ _ _ _ (E.mono e1) fun w H2 e2 r2 => ?_
  obtain ⟨t, ws, rfl, hT, rs⟩ := vr_tup (r1.ext e2)
  obtain ⟨u, h1, h2⟩ := atI_get rs h
  refine ⟨t, ws, _, u, rfl, vr_int r2, by rw [hX.K]; exact hT, by rw [hi]; exact h1, k u H2 (e1.trans e2) h2⟩
theorem ev_ixL {ps : List PV} {n : Nat} (ha : LV G ρ a ps) (hb : EV G ρ b (.int i)) (hi : i = (n : Int)) (h : ps[n]? = some p) (hs : PlainIx b := by exact fun _ _ => rfl) : EV G ρ (.Subscript a b pos) p := by
  intro X hX U B σ H Q E k
  refine of_pe (pe_ix ix_list pe_w pe_w hs) ?_
  refine ha X hX _ _ _ _ _ E fun l vs H1 e1 hl rs => hb X hX _ _ _ _ _ (E.mono e1) fun w H2 e2 r2 => ?_
  obtain ⟨u, h1, h2⟩ := atI_get (VRs.ext e2 rs) h
  refine ⟨l, vs, _, u, rfl, vr_int r2, by rw [hX.K]; exact Evl.ex_l e2 hl, by rw [hi]; exact h1, k u H2 (e1.trans e2) h2⟩
/-! ### built-in functions by name -/
theorem Fits.gl {X : Cx} (hX : Fits G X) {x : Str} (h : G.sc.names.lookup x = some .globalImplicit) : Gl X x := by
  show X.env.scope.names.lookup x = _
  rw [hX.sc]
  exact h
theorem Fits.nn {X : Cx} (hX : Fits G X) {x : Str} (h : G.mg x = none) : X.mg x = none := by rw [hX.mg]; exact h
theorem ev_len {xs : List PV} {p1 : Pos} (ha : QV G ρ a xs) (hm : G.mg "len" = none) (hg : G.sc.names.lookup ("len" : Str) = some .globalImplicit := by first | rfl | decide +kernel) (hs : ∀ env, starEach [a] env = [(false, eval a env)] := by intro _; rfl) : EV G ρ (.Call (.Name "len" p1) [a] [] pos) (.int xs.length) := by
  intro X hX U B σ H Q E k
  refine of_pe (pe_callB call_len_seq (hX.gl hg) (hX.nn hm) PySem.boot_len (pa_cons pe_w pa_nil (hs X.env)) (by decide) (by decide) (hs X.env) rfl) ?_
  refine ha X hX _ _ _ _ _ E fun l vs H1 e1 hl rs => ?_
  refine ⟨l, vs, rfl, by rw [hX.K]; exact hl, k _ _ e1 ?_⟩
  rw [rs.length]
  exact .i
theorem ev_toint {p1 : Pos} (ha : EV G ρ a (.int i)) (hm : G.mg "int" = none) (hg : G.sc.names.lookup ("int" : Str) = some .globalImplicit := by first | rfl | decide +kernel) (hs : ∀ env, starEach [a] env = [(false, eval a env)] := by intro _; rfl) : EV G ρ (.Call (.Name "int" p1) [a] [] pos) (.int i) := by
  intro X hX U B σ H Q E k
  refine of_pe (pe_callTy call_int1 (hX.gl hg) (hX.nn hm) (by decide +kernel) (pa_cons pe_w pa_nil (hs X.env)) (by decide) (by decide) (hs X.env) rfl) ?_
  refine ha X hX _ _ _ _ _ E fun v H1 e1 r1 => .inl ⟨i, by rw [vr_int r1], k _ _ e1 .i⟩
theorem ev_totup {xs : List PV} {p1 : Pos} (ha : QV G ρ a xs) (hm : G.mg "tuple" = none) (hg : G.sc.names.lookup ("tuple" : Str) = some .globalImplicit := by first | rfl | decide +kernel) (hs : ∀ env, starEach [a] env = [(false, eval a env)] := by intro _; rfl) : EV G ρ (.Call (.Name "tuple" p1) [a] [] pos) (.tup xs) := by
  intro X hX U B σ H Q E k
  refine of_pe (pe_callTy call_tuple_of (hX.gl hg) (hX.nn hm) (by decide +kernel) (pa_cons pe_w pa_nil (hs X.env)) (by decide) (by decide) (hs X.env) rfl) ?_
  refine ha X hX _ _ _ _ _ E fun l vs H1 e1 hl rs => ?_
  refine ⟨l, vs, rfl, ?_⟩
  rcases hl with hl | hl
  · exact .inl ⟨by rw [hX.K]; exact hl, fun t nt => k _ _ (e1.trans (Ex.new nt)) (.t (Evl.st_of upd_same) (rs.ext (Ex.new nt)))⟩
  · exact .inr ⟨by rw [hX.K]; exact hl, k _ _ e1 (.t hl rs)⟩
theorem ev_gcd {p1 : Pos} (ha : EV G ρ a (.int i)) (hb : EV G ρ b (.int j)) (hm : G.mg "gcd" = some (.builtin "math.gcd")) (hg : G.sc.names.lookup ("gcd" : Str) = some .globalImplicit := by first | rfl | decide +kernel) (hs : ∀ env, starEach [a, b] env = [(false, eval a env), (false, eval b env)] := by intro _; rfl)
    (hs2 : ∀ env, starEach [b] env = [(false, eval b env)] := by intro _; rfl) : EV G ρ (.Call (.Name "gcd" p1) [a, b] [] pos) (.int ((Nat.gcd i.natAbs j.natAbs : Nat) : Int)) := by
  intro X hX U B σ H Q E k
  have st : starEach [a, b] X.env = (false, eval a X.env) :: starEach [b] X.env := by rw [hs, hs2]
  refine of_pe (pe_callBfun cr_gcd (hX.gl hg) (by rw [hX.mg]; exact hm) (pa_cons pe_w (pa_cons pe_w pa_nil (hs2 X.env)) st) (by decide) st (by rw [hs2]; rfl)) ?_
  refine ha X hX _ _ _ _ _ E fun v H1 e1 r1 => hb X hX _ _ _ _ _ (E.mono e1) fun w H2 e2 r2 => ?_
  exact ⟨i, j, by rw [vr_int r1, vr_int r2], k _ _ (e1.trans e2) .i⟩
def rIsqrt : List V → Hp → VK → Prop := fun vs H Q => ∃ n : Int, vs = [.int n] ∧ 0 ≤ n ∧ n < 2 ^ 64 ∧ Q (.int ((Float64.isqrt n.toNat : Nat) : Int)) H
theorem cr_isqrt {X : Cx} : CallR X (.builtin "math.isqrt") rIsqrt := by
  intro pins s σ H vs us Q I r h
  obtain ⟨n, rfl, h0, h1, q⟩ := h
  cases r with
  | cons ra rt =>
    cases rt
    obtain ⟨t, rfl⟩ := ra
    exact PySem.W.mg_isqrt h0 h1 ⟨.int _, H, I.tok _, ⟨_, rfl⟩, q⟩
theorem ev_isqrt {p1 : Pos} (ha : EV G ρ a (.int i)) (h0 : 0 ≤ i) (h1 : i < 2 ^ 64) (hm : G.mg "isqrt" = some (.builtin "math.isqrt")) (hg : G.sc.names.lookup ("isqrt" : Str) = some .globalImplicit := by first | rfl | decide +kernel) (hs : ∀ env, starEach [a] env = [(false, eval a env)] := by intro _; rfl) :
    EV G ρ (.Call (.Name "isqrt" p1) [a] [] pos) (.int ((Float64.isqrt i.toNat : Nat) : Int)) := by
  intro X hX U B σ H Q E k
  refine of_pe (pe_callBfun cr_isqrt (hX.gl hg) (by rw [hX.mg]; exact hm) (pa_cons pe_w pa_nil (hs X.env)) (by decide) (hs X.env) rfl) ?_
  exact ha X hX _ _ _ _ _ E fun v H1 e1 r1 => ⟨i, by rw [vr_int r1], h0, h1, k _ _ e1 .i⟩
theorem VRs.bls {K : PySem.W.Frag} {H : Hp} {B : Bd} : ∀ {vs : List V} {bs : List Bool}, VRs K H B vs (bs.map PV.bl) → vs = bs.map V.bl
  | [], [], _ => rfl
  | [], _ :: _, h => nomatch h
  | _ :: _, [], h => nomatch h
  | v :: vs, b :: bs, h => by
    have h1 := vr_bl (show VR K H B v (.bl b) from h.head)
    have h2 := VRs.bls (vs := vs) (bs := bs) h.tail
    rw [h1, h2]
    rfl
theorem VRs.intsV {K : PySem.W.Frag} {H : Hp} {B : Bd} : ∀ {vs : List V} {bs : List Int}, VRs K H B vs (bs.map PV.int) → vs = bs.map V.int
  | [], [], _ => rfl
  | [], _ :: _, h => nomatch h
  | _ :: _, [], h => nomatch h
  | v :: vs, b :: bs, h => by
    have h1 := vr_int (show VR K H B v (.int b) from h.head)
    have h2 := VRs.intsV (vs := vs) (bs := bs) h.tail
    rw [h1, h2]
    rfl
theorem ev_all {bs : List Bool} {p1 : Pos} (ha : LV G ρ a (bs.map PV.bl)) (hc : G.calm = true) (hm : G.mg "all" = none) (hg : G.sc.names.lookup ("all" : Str) = some .globalImplicit := by first | rfl | decide +kernel) (hs : ∀ env, starEach [a] env = [(false, eval a env)] := by intro _; rfl) :
    EV G ρ (.Call (.Name "all" p1) [a] [] pos) (.bl (bs.all id)) := by
  intro X hX U B σ H Q E k
  refine of_pe (pe_callB (cr_all (by rw [hX.calm]; exact hc)) (hX.gl hg) (hX.nn hm) (by decide +kernel) (pa_cons pe_w pa_nil (hs X.env)) (by decide) (by decide) (hs X.env) rfl) ?_
  refine ha X hX _ _ _ _ _ E fun l vs H1 e1 hl rs => ?_
  have e := rs.bls
  subst e
  exact ⟨l, bs, rfl, by rw [hX.K]; exact hl, k _ _ e1 .b⟩
/-! ### isinstance -/
def PV.ty : PV → String
  | .non => "NoneType"
  | .bl _ => "bool"
  | .int _ => "int"
  | .str _ => "str"
  | .tup _ => "tuple"
  | .lst _ => "list"
  | .exc .. => "?"
theorem tyX_of {K : PySem.W.Frag} {H : Hp} {B : Bd} {v : V} (h : VR K H B v p) (hn : p.ty ≠ "?") : TyX K H v (.type p.ty) := by
  cases h with
  | non _ => exact .base .non
  | bl _ => exact .base (.bl _)
  | int _ => exact .base (.int _)
  | str _ => exact .base (.str _)
  | tup a _ _ =>
    rcases a with (a | ⟨o, a⟩) | ⟨o, its, n, h1, h2, _⟩
    · exact .base (.tup a)
    · exact .fTuple a
    · exact .kTuple h1 h2
  | lst a _ _ =>
    rcases a with ⟨_, a | ⟨o, a⟩⟩ | ⟨o, its, n, h1, h2, _⟩
    · exact .base (.lst a)
    · exact .base (.frz a)
    · exact .kList h1 h2
  | exc => exact absurd rfl hn
theorem ev_isi {p1 p2 : Pos} {T : Str} {T' : String} (ha : EV G ρ a p) (hn : p.ty ≠ "?") (hk : kitB p.ty T' = some x) (hm : G.mg "isinstance" = none) (hT : G.mg T = none) (hb : bootBuiltins T = some (.type T')) (hTn : T ≠ "__name__" := by decide) (hTd : (T == ("__debug__" : Str)) = false := by decide)
    (hg : G.sc.names.lookup ("isinstance" : Str) = some .globalImplicit := by first | rfl | decide +kernel) (hgT : G.sc.names.lookup T = some .globalImplicit := by first | rfl | decide +kernel)
    (hs : ∀ env, starEach [a, .Name T p2] env = [(false, eval a env), (false, eval (.Name T p2) env)] := by intro _; rfl) :
    EV G ρ (.Call (.Name "isinstance" p1) [a, .Name T p2] [] pos) (.bl x) := by
  intro X hX U B σ H Q E k
  refine of_pe (pe_callB call_isi (hX.gl hg) (hX.nn hm) (by decide +kernel) (pa_cons pe_w (pa_cons (pe_bltn (v := .ty T') (hX.gl hgT) (hX.nn hT) hb rfl hTn hTd) pa_nil) (hs X.env)) (by decide) (by decide) (hs X.env) rfl) ?_
  refine ha X hX _ _ _ _ _ E fun v H1 e1 r1 => ?_
  exact ⟨v, .ty T', .type p.ty, .type T', x, rfl, .ty T', by rw [hX.K]; exact tyX_of r1 hn, kit_ty hk, k _ _ e1 .b⟩
/-! ### data at any depth -/
def PV.dats : List PV → List PyData
  | [] => []
  | p :: ps => (match p with
    | .non => .none
    | .bl b => .bool b
    | .int i => .int i
    | .str x => .str x
    | .tup xs => .tuple (PV.dats xs)
    | .lst xs => .list (PV.dats xs)
    | .exc .. => .none) :: PV.dats ps
end
end VL

namespace VL
open PySem PySem.Spec PyProof.Rows L2
open Evl (Ex)
open L2H (RoomH HotC FnH)

/-! ### what a def gives -/
inductive Res where
  | ok (p : PV)
  | exc (C : Addr) (ns : List Str) (xs : List PV)
abbrev Rel := List PV → Res → Prop
def ResOk (K : PySem.W.Frag) (B : Bd) (H : Hp) (Q : VK) (E : XK) : Res → Prop
  | .ok p => ∀ v H', Ex H H' → VR K H' B v p → Q v H'
  | .exc C ns xs => ∀ d ws H', Ex H H' → H' d = some (.xd (ns.zip ws)) → ws.length = ns.length → VRs K H' B ws xs → E (.ref C) (some d) H'
def spOf (K : PySem.W.Frag) (n : Nat) (R : Rel) : Sp := fun vs H Q E => ∃ (args : List PV) (r : Res) (B : Bd), VRs K H B vs args ∧ (∀ b, B b → ∃ o, H b = some o) ∧ args.length = n ∧ R args r ∧ ResOk K B H Q E r
def FnV (P : Program) (w : World) (K : PySem.W.Frag) (mg : Str → Option Value) (base : Heap) (k : Nat) (x : Str) (ps : List Str) (R : Rel) : Prop :=
  ∃ f fd, mg x = some (.ref f) ∧ PySem.W.keepIn K (.ref f) = true ∧ FnOk P w K mg base (L2N.CX P w) k f fd ps (spOf K ps.length R) ∧ Binds K fd ps []
def FnVH (P : Program) (w : World) (K : PySem.W.Frag) (mg : Str → Option Value) (base : Heap) (k : Nat) (x : Str) (ps : List Str) (R : Rel) : Prop :=
  ∃ f fd, mg x = some (.ref f) ∧ PySem.W.keepIn K (.ref f) = true ∧ FnH P w K mg base (L2N.CX P w) k f fd ps (spOf K ps.length R) ∧ Binds K fd ps []
abbrev Gam.Fn (G : Gam) (k : Nat) (x : Str) (ps : List Str) (R : Rel) : Prop := FnV G.P G.w G.K G.mg G.base k x ps R
abbrev Gam.FnHot (G : Gam) (k : Nat) (x : Str) (ps : List Str) (R : Rel) : Prop := FnVH G.P G.w G.K G.mg G.base k x ps R

/-- an expression that raises -/
def EX (G : Gam) (ρ : List Sl) (e : Expr) (C : Addr) (ns : List Str) (xs : List PV) : Prop := ∀ X, Fits G X → ∀ (W : WX), L2N.Takes X W → ∀ (U : Und) (B : Bd) (σ : L2.St) (H : Hp) (Q : VK), EnvR G.K U B H σ ρ →
  (∀ d ws H', Ex H H' → H' d = some (.xd (ns.zip ws)) → ws.length = ns.length → VRs G.K H' B ws xs → W (.ref C) (some d) σ H') → wE X e σ H Q

section
variable {G : Gam} {ρ : List Sl} {a b c e : Expr} {es rest : List Expr} {pos : Pos} {i j : Int} {p q r : PV} {x y : Bool} {k : Nat} {f : Str} {ps : List Str} {R : Rel} {args : List PV}
theorem pass0N {X : Cx} : Passes (L2N.CX X.prog X.w) X (fun _ _ _ => False) := fun _ _ _ _ _ _ _ h => by
  obtain ⟨_, _, _, _, _, _, _, _, _, _, _, _, z⟩ := h
  exact z.elim
theorem pass0H {X : Cx} {σ : L2.St} : PassesAt (L2N.CX X.prog X.w) X σ (fun _ _ _ => False) := fun _ _ _ _ _ _ h => by
  obtain ⟨_, _, _, _, _, _, _, _, _, _, _, _, z⟩ := h
  exact z.elim
theorem ev_call {p1 : Pos} (F : G.Fn k f ps R) (hc : G.calm = true) (hk : k ≤ G.k) (ha : AV G ρ (e :: es) args) (hR : R args (.ok p)) (hl : args.length = ps.length) (hg : G.sc.names.lookup f = some .globalImplicit := by first | rfl | decide +kernel) (hd : (f == ("__debug__" : Str)) = false := by decide)
    (hs : ∀ env, starEach (e :: es) env = (false, eval e env) :: starEach es env := by intro _; rfl) (hpl : ∀ env, (backTo pos (starEach es env)).any (·.1) = false := by intro _; rfl) : EV G ρ (.Call (.Name f p1) (e :: es) [] pos) p := by
  obtain ⟨g, fd, hm, hkp, F, hb⟩ := F
  intro X hX U B σ H Q E q
  have F' : FnOk X.prog X.w X.K X.mg X.base (L2N.CX X.prog X.w) k g fd ps (spOf G.K ps.length R) := by rw [hX.prog, hX.w, hX.K, hX.mg, hX.base]; exact F
  refine of_pe (pe_call F' ((hX.room hc).mono hk) (hX.gl hg) (by rw [hX.mg]; exact hm) (by rw [hX.K]; exact hkp) (by rw [hX.K]; exact hb) .nil pass0N pa_w hd (hs X.env) (hpl X.env)) ?_
  refine ha X hX _ _ _ _ _ E fun vs H1 e1 rs => ?_
  rw [List.append_nil]
  exact ⟨args, .ok p, B, rs, (E.mono e1).trk, hl, hR, fun v H2 e2 r2 => q v H2 (e1.trans e2) r2⟩
theorem ev_call0 {p1 : Pos} (F : G.Fn k f [] R) (hc : G.calm = true) (hk : k ≤ G.k) (hR : R [] (.ok p)) (hg : G.sc.names.lookup f = some .globalImplicit := by first | rfl | decide +kernel) (hd : (f == ("__debug__" : Str)) = false := by decide) : EV G ρ (.Call (.Name f p1) [] [] pos) p := by
  obtain ⟨g, fd, hm, hkp, F, hb⟩ := F
  intro X hX U B σ H Q E q
  have F' : FnOk X.prog X.w X.K X.mg X.base (L2N.CX X.prog X.w) k g fd [] (spOf G.K 0 R) := by rw [hX.prog, hX.w, hX.K, hX.mg, hX.base]; exact F
  refine of_pe (pe_call0 F' ((hX.room hc).mono hk) (hX.gl hg) (by rw [hX.mg]; exact hm) (by rw [hX.K]; exact hkp) (by rw [hX.K]; exact hb) .nil pass0N hd) ?_
  exact ⟨[], .ok p, B, .nil, E.trk, rfl, hR, fun v H2 e2 r2 => q v H2 e2 r2⟩
theorem ev_callH {p1 : Pos} (F : G.FnHot k f ps R) (hc : G.calm = false) (hk : k ≤ G.k) (ha : AV G ρ (e :: es) args) (hR : R args (.ok p)) (hl : args.length = ps.length) (hg : G.sc.names.lookup f = some .globalImplicit := by first | rfl | decide +kernel) (hd : (f == ("__debug__" : Str)) = false := by decide)
    (hs : ∀ env, starEach (e :: es) env = (false, eval e env) :: starEach es env := by intro _; rfl) (hpl : ∀ env, (backTo pos (starEach es env)).any (·.1) = false := by intro _; rfl) : EV G ρ (.Call (.Name f p1) (e :: es) [] pos) p := by
  obtain ⟨g, fd, hm, hkp, F, hb⟩ := F
  intro X hX U B σ H Q E q
  have F' : FnH X.prog X.w X.K X.mg X.base (L2N.CX X.prog X.w) k g fd ps (spOf G.K ps.length R) := by rw [hX.prog, hX.w, hX.K, hX.mg, hX.base]; exact F
  refine of_pe (L2H.pe_callH (E := fun _ _ _ _ => False) F' (hX.roomH.mono hk) (hX.hot hc) (hX.gl hg) (by rw [hX.mg]; exact hm) (by rw [hX.K]; exact hkp) (by rw [hX.K]; exact hb) (fun _ => pass0H) pa_w hd (hs X.env) (hpl X.env)) ?_
  refine ha X hX _ _ _ _ _ E fun vs H1 e1 rs => ?_
  exact ⟨args, .ok p, B, rs, (E.mono e1).trk, hl, hR, fun v H2 e2 r2 => q v H2 (e1.trans e2) r2⟩
theorem ex_call {p1 : Pos} {C : Addr} {ns : List Str} {xs : List PV} (F : G.Fn k f ps R) (hc : G.calm = true) (hk : k ≤ G.k) (ha : AV G ρ (e :: es) args) (hR : R args (.exc C ns xs)) (hl : args.length = ps.length) (hg : G.sc.names.lookup f = some .globalImplicit := by first | rfl | decide +kernel) (hd : (f == ("__debug__" : Str)) = false := by decide)
    (hs : ∀ env, starEach (e :: es) env = (false, eval e env) :: starEach es env := by intro _; rfl) (hpl : ∀ env, (backTo pos (starEach es env)).any (·.1) = false := by intro _; rfl) : EX G ρ (.Call (.Name f p1) (e :: es) [] pos) C ns xs := by
  obtain ⟨g, fd, hm, hkp, F, hb⟩ := F
  intro X hX W tk U B σ H Q E q
  have F' : FnOk X.prog X.w X.K X.mg X.base (L2N.CX X.prog X.w) k g fd ps (spOf G.K ps.length R) := by rw [hX.prog, hX.w, hX.K, hX.mg, hX.base]; exact F
  refine of_pe (pe_callS (E := WE W) F' ((hX.room hc).mono hk) (hX.gl hg) (by rw [hX.mg]; exact hm) (by rw [hX.K]; exact hkp) (by rw [hX.K]; exact hb) (L2N.passAt tk) pa_w hd (hs X.env) (hpl X.env)) ?_
  refine ha X hX _ _ _ _ _ E fun vs H1 e1 rs => ?_
  exact ⟨args, .exc C ns xs, B, rs, (E.mono e1).trk, hl, hR, fun d ws H2 e2 h1 h2 h3 => q d ws H2 (e1.trans e2) h1 h2 h3⟩
end

/-! ### statements -/
inductive Out where
  | nx (ρ : List Sl) | rt (p : PV) | xc (ρ : List Sl) (C : Addr) (ns : List Str) (xs : List PV) | bk (ρ : List Sl) | ct (ρ : List Sl)
def OutOk (K : PySem.W.Frag) (U : Und) (D : Ends) (W : WX) : Out → Prop
  | .nx ρ => ∀ B σ H, EnvR K U B H σ ρ → D.nx σ H
  | .bk ρ => ∀ B σ H, EnvR K U B H σ ρ → D.bk σ H
  | .ct ρ => ∀ B σ H, EnvR K U B H σ ρ → D.ct σ H
  | .rt p => ∀ v H, Ex U.H0 H → VR K H U.B0 v p → D.rt v H
  | .xc ρ C ns xs => ∀ d ws B σ H, EnvR K U B H σ ρ → H d = some (.xd (ns.zip ws)) → ws.length = ns.length → VRs K H B ws xs → W (.ref C) (some d) σ H
structure Air (X : Cx) (W : WX) : Prop where
  tk : L2N.Takes X W
  po : PassesOwn (model X.prog X.w) X.A X.env X.xe
  stk : X.stack = X.env :: X.outer
  fr : X.env.frame = some X.env.locals
def SV (G : Gam) (ρ : List Sl) (st : Stmt) (out : Out) : Prop := ∀ X E, Fits G X → Air X E → ∀ (U : Und) (B : Bd) (σ : L2.St) (H : Hp) (D : Ends), EnvR G.K U B H σ ρ → OutOk G.K U D E out → wS X st D σ H
def SS (G : Gam) (ρ : List Sl) (sts : List Stmt) (out : Out) : Prop := ∀ X E, Fits G X → Air X E → ∀ (U : Und) (B : Bd) (σ : L2.St) (H : Hp) (D : Ends), EnvR G.K U B H σ ρ → OutOk G.K U D E out → wB X sts D σ H
def Out.stops : Out → Bool
  | .nx _ => false
  | _ => true
section
variable {G : Gam} {ρ ρ' : List Sl} {a b c e : Expr} {st : Stmt} {rest body orelse : List Stmt} {out : Out} {pos : Pos} {p : PV} {x : Bool}
theorem ss_nil : SS G ρ [] (.nx ρ) := fun X E hX hA U B σ H D R h => of_pss pss_nil (h B σ H R)
theorem ss_cons (h1 : SV G ρ st (.nx ρ')) (h2 : SS G ρ' rest out) : SS G ρ (st :: rest) out := fun X E hX hA U B σ H D R h =>
  of_pss (pss_cons ps_w pss_w) (h1 X E hX hA _ _ _ _ _ R fun B1 σ1 H1 R1 => h2 X E hX hA _ _ _ _ _ R1 h)
theorem ss_stop (h1 : SV G ρ st out) (hs : out.stops = true := by rfl) : SS G ρ (st :: rest) out := fun X E hX hA U B σ H D R h =>
  of_pss (pss_cons ps_w (u := fun _ _ _ => False) ⟨fun _ _ _ _ _ _ z => z.elim⟩) (h1 X E hX hA _ _ _ _ _ R (by
    cases out with
    | nx _ => cases hs
    | rt _ => exact h
    | xc _ _ _ _ => exact h
    | bk _ => exact h
    | ct _ => exact h))
theorem ss_one (h1 : SV G ρ st out) : SS G ρ [st] out := fun X E hX hA U B σ H D R h => of_pss (pss_one ps_w) (h1 X E hX hA _ _ _ _ _ R h)
theorem sv_pass : SV G ρ (.Pass pos) (.nx ρ) := fun X E hX hA U B σ H D R h => of_ps ps_pass (h B σ H R)
theorem sv_brk : SV G ρ (.Break pos) (.bk ρ) := fun X E hX hA U B σ H D R h => of_ps ps_break (h B σ H R)
theorem sv_cont : SV G ρ (.Continue pos) (.ct ρ) := fun X E hX hA U B σ H D R h => of_ps ps_continue (h B σ H R)
theorem sv_ret (he : EV G ρ e p) : SV G ρ (.Return (some e) pos) (.rt p) := fun X E hX hA U B σ H D R h =>
  of_ps (ps_ret pe_w) (he X hX _ _ _ _ _ R fun v H1 e1 r1 => h v H1 (R.ex.trans e1) (r1.anti R.up))
theorem sv_retX {C : Addr} {ns : List Str} {xs : List PV} (he : EX G ρ e C ns xs) : SV G ρ (.Return (some e) pos) (.xc ρ C ns xs) := fun X E hX hA U B σ H D R h =>
  of_ps (ps_ret pe_w) (he X hX E hA.tk _ _ _ _ _ R fun d ws H1 e1 h1 h2 h3 => h d ws B σ H1 (R.mono e1) h1 h2 h3)
theorem sv_expr (he : EV G ρ e p) (hs : ∀ env, swapsWith e none pos.line env = pure false := by intro _; rfl) : SV G ρ (.Expr e pos) (.nx ρ) := fun X E hX hA U B σ H D R h =>
  of_ps (ps_expr pe_w (hs X.env)) (he X hX _ _ _ _ _ R fun v H1 e1 r1 => h B σ H1 (R.mono e1))
theorem sv_exprX {C : Addr} {ns : List Str} {xs : List PV} (he : EX G ρ e C ns xs) (hs : ∀ env, swapsWith e none pos.line env = pure false := by intro _; rfl) : SV G ρ (.Expr e pos) (.xc ρ C ns xs) := fun X E hX hA U B σ H D R h =>
  of_ps (ps_expr pe_w (hs X.env)) (he X hX E hA.tk _ _ _ _ _ R fun d ws H1 e1 h1 h2 h3 => h d ws B σ H1 (R.mono e1) h1 h2 h3)
theorem sv_if (hc : TV G ρ c x) (h1 : x = true → SS G ρ body out) (h2 : x = false → SS G ρ orelse out) : SV G ρ (.If c body orelse pos) out := fun X E hX hA U B σ H D R h =>
  of_ps (ps_if pt_w pss_w pss_w) (hc X hX _ _ _ _ _ R fun H1 e1 => by
    cases x with
    | true => exact (if_pos rfl).mpr (h1 rfl X E hX hA _ _ _ _ _ (R.mono e1) h)
    | false => exact (if_neg Bool.false_ne_true).mpr (h2 rfl X E hX hA _ _ _ _ _ (R.mono e1) h))
theorem Fits.loc {X : Cx} (hX : Fits G X) {z : Str} (h : Loc G.sc z) : Loc X.env.scope z := by rw [hX.sc]; exact h
theorem Fits.fnl {X : Cx} (hX : Fits G X) {z : Str} (h : G.fn z = true ∨ G.sc.names.lookup z = some .local) : X.fn z = true ∨ X.env.scope.names.lookup z = some .local := by rw [hX.sc, hX.fn]; exact h
theorem sv_set {n : Nat} {z : Str} {p1 : Pos} (hi : G.N[n]? = some z) (hx : Loc G.sc z) (he : EV G ρ e p) (hf : G.fn z = true ∨ G.sc.names.lookup z = some .local := by first | exact .inl rfl | exact .inr rfl)
    (hs : ∀ env, swapsWith e (some (.Name z p1)) pos.line env = pure false := by intro _; rfl) : SV G ρ (.Assign [.Name z p1] e pos) (.nx (ρ.set n (.val p))) := fun X E hX hA U B σ H D R h =>
  of_ps (ps_set (i := n) (by rw [hX.N]; exact hX.nd) (by rw [hX.N]; exact hi) (hX.loc hx) pe_w (hs X.env) (hX.fnl hf)) (he X hX _ _ _ _ _ R fun v H1 e1 r1 => h B _ H1 ((R.mono e1).set r1))
end

/-! ### a def of the text -/
def start0 (n : Nat) (args : List PV) : List Sl := args.map Sl.val ++ List.replicate (n - args.length) .no
inductive Ends1 : Res → Out → Prop
  | rt {p} : Ends1 (.ok p) (.rt p)
  | nx {ρ} : Ends1 (.ok .non) (.nx ρ)
  | xc {ρ C ns xs} : Ends1 (.exc C ns xs) (.xc ρ C ns xs)
theorem start_env {K : PySem.W.Frag} {B : Bd} {H : Hp} {N : List Str} {vs : List V} {args : List PV} (r : VRs K H B vs args) (tr : ∀ b, B b → ∃ o, H b = some o) : EnvR K ⟨B, H, []⟩ B H (L2.start N vs) (start0 N.length args) where
  len := by
    unfold L2.start start0
    rw [List.length_append, List.length_append, List.length_map, List.length_map, List.length_replicate, List.length_replicate, r.length]
  up := fun _ h => h
  trk0 := tr
  trk := tr
  ex := Ex.refl H
  gh := fun g h => nomatch h
  val := fun i p h => by
    unfold start0 at h
    by_cases hi : i < args.length
    · rw [List.getElem?_append_left (by rw [List.length_map]; exact hi), List.getElem?_map] at h
      cases e : args[i]? with
      | none => rw [e] at h; cases h
      | some q =>
        rw [e] at h
        cases h
        obtain ⟨v, h1, h2⟩ := r.get e
        refine ⟨v, ?_, h2⟩
        unfold L2.start
        rw [List.getElem?_append_left (by rw [List.length_map, r.length]; exact hi), List.getElem?_map, h1]
        rfl
    · rw [List.getElem?_append_right (by rw [List.length_map]; exact Nat.le_of_not_lt hi), List.getElem?_replicate] at h
      split at h <;> cases h
  own := fun i xs h => by
    unfold start0 at h
    by_cases hi : i < args.length
    · rw [List.getElem?_append_left (by rw [List.length_map]; exact hi), List.getElem?_map] at h
      cases e : args[i]? with
      | none => rw [e] at h; cases h
      | some q => rw [e] at h; cases h
    · rw [List.getElem?_append_right (by rw [List.length_map]; exact Nat.le_of_not_lt hi), List.getElem?_replicate] at h
      split at h <;> cases h
  dis := fun i j xs ys a h _ => by
    exfalso
    unfold start0 at h
    by_cases hi : i < args.length
    · rw [List.getElem?_append_left (by rw [List.length_map]; exact hi), List.getElem?_map] at h
      cases e : args[i]? with
      | none => rw [e] at h; cases h
      | some q => rw [e] at h; cases h
    · rw [List.getElem?_append_right (by rw [List.length_map]; exact Nat.le_of_not_lt hi), List.getElem?_replicate] at h
      split at h <;> cases h
/-- the place of a def's body -/
abbrev gam (P : Program) (w : World) (K : PySem.W.Frag) (mg : Str → Option Value) (base : Heap) (N : List Str) (st : Stmt) (k : Nat) (calm : Bool) : Gam := ⟨P, w, K, mg, base, N, defScope st, fun _ => true, k, calm, fun _ => True⟩
theorem out_of {K : PySem.W.Frag} {B : Bd} {H : Hp} {Q : VK} {E : XK} {r : Res} {out : Out} (o : Ends1 r out) (h : ResOk K B H Q E r) : OutOk K ⟨B, H, []⟩ { nx := fun _ H' => Q .non H', rt := Q } (fun c d _ H => E c d H) out := by
  cases o with
  | rt => exact h
  | nx => exact fun B1 σ H1 R => h _ H1 R.ex .n
  | xc => exact fun d ws B1 σ H1 R h1 h2 h3 => h d ws H1 R.ex h1 h2 (h3.anti R.up)
theorem spOf_len {K : PySem.W.Frag} {n : Nat} {R : Rel} : ∀ vs H Q E, spOf K n R vs H Q E → vs.length = n := fun vs H Q E h => by
  obtain ⟨args, r, B, rs, _, hl, _⟩ := h
  rw [rs.length]
  exact hl
section
variable {P : Program} {w : World} {K : PySem.W.Frag} {mg : Str → Option Value} {base : Heap}
theorem fn_def_ok {x : Str} {st : Stmt} {f : Addr} {fd : FuncData} {N ps : List Str} {k : Nat} {R : Rel} (F : Fun K x x st f fd) (S : FnScope N ps (defScope st))
    (body : ∀ args r, R args r → args.length = ps.length → ∃ out, Ends1 r out ∧ SS (gam P w K mg base N st k true) (start0 N.length args) (defBody st) out) : FnOk P w K mg base (L2N.CX P w) (k + 1) f fd ps (spOf K ps.length R) := by
  obtain ⟨oc, od, kV, doc, pm, an, cdv, ct, osl, rfl, lk, hcd⟩ := F.ex
  refine fn_of lk hcd S spOf_len fun A outer s H vs Q E hr hsp => ?_
  obtain ⟨args, r, B, rs, tr, hl, hR, hres⟩ := hsp
  obtain ⟨out, ho, hss⟩ := body args r hR hl
  refine ⟨_, pss_w, ?_⟩
  exact hss _ (fun c d _ H => E c d H) ⟨rfl, rfl, rfl, rfl, rfl, rfl, rfl, rfl, rfl, S.nd, L2H.roomH_of hr, fun _ => hr, (fun z => by cases z), trivial⟩ ⟨L2N.takes_of rfl rfl rfl rfl, passes_of rfl, rfl, rfl⟩ _ _ _ _ _ (start_env rs tr) (out_of ho hres)
theorem fn_def {x : Str} {st : Stmt} {f : Addr} {fd : FuncData} {N ps : List Str} {k : Nat} {R : Rel} (F : Fun K x x st f fd) (S : FnScope N ps (defScope st)) (hm : mg x = some (.ref f)) (hb : Binds K fd ps [])
    (body : ∀ args r, R args r → args.length = ps.length → ∃ out, Ends1 r out ∧ SS (gam P w K mg base N st k true) (start0 N.length args) (defBody st) out) : FnV P w K mg base (k + 1) x ps R := ⟨f, fd, hm, F.kp, fn_def_ok F S body, hb⟩
theorem fn_defH {x : Str} {st : Stmt} {f : Addr} {fd : FuncData} {N ps : List Str} {k : Nat} {R : Rel} (F : Fun K x x st f fd) (S : FnScope N ps (defScope st)) (hm : mg x = some (.ref f)) (hb : Binds K fd ps [])
    (body : ∀ args r, R args r → args.length = ps.length → ∃ out, Ends1 r out ∧ SS (gam P w K mg base N st k false) (start0 N.length args) (defBody st) out) : FnVH P w K mg base (k + 1) x ps R := by
  refine ⟨f, fd, hm, F.kp, ?_, hb⟩
  obtain ⟨oc, od, kV, doc, pm, an, cdv, ct, osl, rfl, lk, hcd⟩ := F.ex
  refine L2H.fn_ofH lk hcd S spOf_len fun A outer s H vs Q E p hot hr hsp => ?_
  obtain ⟨args, r, B, rs, tr, hl, hR, hres⟩ := hsp
  obtain ⟨out, ho, hss⟩ := body args r hR hl
  refine ⟨_, pss_w, ?_⟩
  exact hss _ (fun c d _ H => E c d H) ⟨rfl, rfl, rfl, rfl, rfl, rfl, rfl, rfl, rfl, S.nd, hr, (fun z => by cases z), (fun _ => ⟨p, hot, List.mem_cons_self⟩), trivial⟩ ⟨L2N.takes_of rfl rfl rfl rfl, passes_of rfl, rfl, rfl⟩ _ _ _ _ _ (start_env rs tr) (out_of ho hres)
end
end VL

namespace VL
open PySem PySem.Spec PyProof.Rows L2
open Evl (Ex)
open L2H (RoomH HotC FnH)
section
variable {K : PySem.W.Frag} {U : Und} {B : Bd} {H H' : Hp} {σ : L2.St} {ρ : List Sl}
def Und.add (U : Und) (g : V × PV) : Und := ⟨U.B0, U.H0, g :: U.gs⟩
theorem EnvR.keep (E : EnvR K U B H σ ρ) {g : V × PV} (h : VR K H B g.1 g.2) : EnvR K (U.add g) B H σ ρ :=
  ⟨E.len, E.up, E.trk0, E.trk, E.ex, fun g' hg => (List.mem_cons.mp hg).elim (fun e => e ▸ h) (E.gh g'), E.val, E.own, E.dis⟩
theorem EnvR.drop {g : V × PV} (E : EnvR K (U.add g) B H σ ρ) : EnvR K U B H σ ρ :=
  ⟨E.len, E.up, E.trk0, E.trk, E.ex, fun g' hg => E.gh g' (List.mem_cons_of_mem _ hg), E.val, E.own, E.dis⟩
theorem OutOk.add {D : Ends} {EE : WX} {g : V × PV} {out : Out} (h : OutOk K U D EE out) : OutOk K (U.add g) D EE out := by
  cases out with
  | nx ρ => exact fun B σ H R => h B σ H R.drop
  | rt p => exact h
  | xc _ _ _ _ => exact fun d ws B σ H R => h d ws B σ H R.drop
  | bk ρ => exact fun B σ H R => h B σ H R.drop
  | ct ρ => exact fun B σ H R => h B σ H R.drop
theorem EnvR.gone (E : EnvR K U B H σ ρ) {a : Addr} (n : H a = none) : U.H0 a = none := Evl.fresh_back E.ex n
end

/-! ### what is walked -/
def Items (K : PySem.W.Frag) (J : It) (H : Hp) (B : Bd) (its : List PV) : Prop := ∀ i, (i < its.length → J.go i H ∧ ∀ x H', J.yld i H x H' → H' = H ∧ ∃ p, its[i]? = some p ∧ VR K H B x p) ∧ (its.length ≤ i → J.stop i H)
def IV (G : Gam) (ρ : List Sl) (tg iter : Expr) (its : List PV) : Prop := ∀ X, Fits G X → ∃ wi, PI X tg iter wi ∧ ∀ (U : Und) (B : Bd) (σ : L2.St) (H : Hp) (R : It → Hp → Prop), EnvR G.K U B H σ ρ →
  (∀ (J : It) (g : V × PV) H1, Ex H H1 → VR G.K H1 B g.1 g.2 → (∀ B' H', VR G.K H' B' g.1 g.2 → Items G.K J H' B' its) → R J H1) → wi σ H R
theorem items_list {K : PySem.W.Frag} {B : Bd} {H : Hp} {a : Addr} {its : List PV} (h : VR K H B (.ref a) (.lst its)) : Items K (Itl K a) H B its := by
  obtain ⟨l, ws, e, hl, rs⟩ := vr_lst h
  cases e
  refine fun i => ⟨fun hi => ?_, fun hi => ⟨ws, hl.sq, by rw [rs.length]; exact hi⟩⟩
  obtain ⟨v, h1, h2⟩ := rs.get (List.getElem?_eq_getElem hi)
  refine ⟨⟨ws, v, hl.sq, h1⟩, fun x H' y => ⟨y.1, _, List.getElem?_eq_getElem hi, ?_⟩⟩
  have := (y.2 ws hl.sq).symm.trans h1
  cases this
  exact h2
theorem items_tup {K : PySem.W.Frag} {B : Bd} {H : Hp} {a : Addr} {its : List PV} (h : VR K H B (.ref a) (.tup its)) : Items K (Itt K a) H B its := by
  obtain ⟨l, ws, e, hl, rs⟩ := vr_tup h
  cases e
  refine fun i => ⟨fun hi => ?_, fun hi => ⟨ws, hl, by rw [rs.length]; exact hi⟩⟩
  obtain ⟨v, h1, h2⟩ := rs.get (List.getElem?_eq_getElem hi)
  refine ⟨⟨ws, v, hl, h1⟩, fun x H' y => ⟨y.1, _, List.getElem?_eq_getElem hi, ?_⟩⟩
  have := (y.2 ws hl).symm.trans h1
  cases this
  exact h2
def rng (lo : Int) (n : Nat) : List PV := (List.range n).map fun (k : Nat) => PV.int (lo + (k : Int))
theorem items_rng {K : PySem.W.Frag} {B : Bd} {H : Hp} {lo : Int} {n : Nat} : Items K (Itr lo n) H B (rng lo n) := by
  refine fun i => ⟨fun hi => ?_, fun hi => ?_⟩
  · have hn : i < n := by simpa [rng] using hi
    refine ⟨hn, fun x H' y => ⟨y.1, .int (lo + (i : Int)), by simp [rng, hn], ?_⟩⟩
    rw [y.2]
    exact .i
  · show n ≤ i
    simpa [rng] using hi
section
variable {G : Gam} {ρ : List Sl} {a b c e tg : Expr} {pos : Pos} {its : List PV} {i j : Int}
theorem iv_list (h : EV G ρ a (.lst its)) : IV G ρ tg a its := fun X hX => ⟨_, pi_list pe_w, fun U B σ H R E q => h X hX _ _ _ _ _ E fun v H1 e1 r1 => by
  obtain ⟨l, ws, rfl, hl, rs⟩ := vr_lst r1
  rw [hX.K]
  exact ⟨l, rfl, ⟨ws, hl.sq⟩, q _ (.ref l, .lst its) H1 e1 r1 fun B' H' h => items_list h⟩⟩
theorem iv_tup (h : EV G ρ a (.tup its)) : IV G ρ tg a its := fun X hX => ⟨_, pi_tup pe_w, fun U B σ H R E q => h X hX _ _ _ _ _ E fun v H1 e1 r1 => by
  obtain ⟨l, ws, rfl, hl, rs⟩ := vr_tup r1
  rw [hX.K]
  exact ⟨l, rfl, ⟨ws, hl⟩, q _ (.ref l, .tup its) H1 e1 r1 fun B' H' h => items_tup h⟩⟩
theorem iv_rng1 {p1 : Pos} (h : EV G ρ a (.int j)) (h1 : -(2 ^ 62) ≤ j) (h2 : j < 2 ^ 62) (hm : G.mg "range" = none) (hg : G.sc.names.lookup ("range" : Str) = some .globalImplicit := by first | rfl | decide +kernel) (hs : ∀ env, starEach [a] env = [(false, eval a env)] := by intro _; rfl) :
    IV G ρ tg (.Call (.Name "range" p1) [a] [] pos) (rng 0 j.toNat) := fun X hX => ⟨_, pi_range1 (hX.gl hg) (hX.nn hm) (pa_cons pe_w pa_nil (hs X.env)) (hs X.env), fun U B σ H R E q => h X hX _ _ _ _ _ E fun v H1 e1 r1 =>
      ⟨j, by rw [vr_int r1], h1, h2, q _ (.non, .non) H1 e1 .n fun _ _ _ => items_rng⟩⟩
theorem iv_rng2 {p1 : Pos} (ha : EV G ρ a (.int i)) (hb : EV G ρ b (.int j)) (h : -(2 ^ 62) ≤ i ∧ i < 2 ^ 62 ∧ -(2 ^ 62) ≤ j ∧ j < 2 ^ 62) (hm : G.mg "range" = none) (hg : G.sc.names.lookup ("range" : Str) = some .globalImplicit := by first | rfl | decide +kernel)
    (hs : ∀ env, starEach [a, b] env = [(false, eval a env), (false, eval b env)] := by intro _; rfl) (hs2 : ∀ env, starEach [b] env = [(false, eval b env)] := by intro _; rfl) :
    IV G ρ tg (.Call (.Name "range" p1) [a, b] [] pos) (rng i (j - i).toNat) := fun X hX => ⟨_, pi_range2 (hX.gl hg) (hX.nn hm) (pa_cons pe_w (pa_cons pe_w pa_nil (hs2 X.env)) (by rw [hs, hs2])) (hs X.env) (hs2 X.env), fun U B σ H R E q =>
      ha X hX _ _ _ _ _ E fun v H1 e1 r1 => hb X hX _ _ _ _ _ (E.mono e1) fun w H2 e2 r2 => ⟨i, j, by rw [vr_int r1, vr_int r2], h, q _ (.non, .non) H2 (e1.trans e2) .n fun _ _ _ => items_rng⟩⟩
end

/-! ### targets -/
inductive Tg where
  | one (n : Nat) | many (ns : List Nat)
def setAll : List Nat → List PV → List Sl → List Sl
  | n :: ns, x :: xs, ρ => setAll ns xs (ρ.set n (.val x))
  | _, _, ρ => ρ
def Tg.bind : Tg → PV → List Sl → List Sl
  | .one n, x, ρ => ρ.set n (.val x)
  | .many ns, .tup xs, ρ => setAll ns xs ρ
  | .many _, _, ρ => ρ
def Tg.fits : Tg → PV → Prop
  | .one _, _ => True
  | .many ns, .tup xs => xs.length = ns.length
  | .many _, _ => False
def Tg.slots : Tg → List Nat
  | .one n => [n]
  | .many ns => ns
def BV (G : Gam) (tg : Expr) (T : Tg) : Prop := ∀ X, Fits G X → ∃ g, PG X tg g ∧ ∀ (U : Und) (B : Bd) (σ : L2.St) (H : Hp) (ρ : List Sl) (v : V) (x : PV) (Q : L2.St → Hp → Prop), EnvR G.K U B H σ ρ → VR G.K H B v x → T.fits x →
  (∀ σ', EnvR G.K U B H σ' (T.bind x ρ) → (∀ vs, (∀ n ∈ T.slots, n ∈ vs) → wipe σ' vs = wipe σ vs) → Q σ' H) → g v σ H Q
theorem wipe_at {σ : L2.St} {i n : Nat} : ∀ {vs : List Nat}, i ∈ vs → (wipe σ vs)[i]? = if i < σ.length then some none else none
  | v :: vs, h => by
    unfold wipe
    by_cases e : v = i
    · subst e
      rw [List.getElem?_set]
      simp [wipe_length]
    · rw [List.getElem?_set_ne e]
      exact wipe_at (n := n) ((List.mem_cons.mp h).resolve_left fun z => e z.symm)
theorem wipe_set {σ : L2.St} {n : Nat} {v : Option V} {vs : List Nat} (h : n ∈ vs) : wipe (σ.set n v) vs = wipe σ vs := by
  apply List.ext_getElem?
  intro i
  by_cases hi : i ∈ vs
  · rw [wipe_at (n := 0) hi, wipe_at (n := 0) hi, List.length_set]
  · rw [wipe_out hi, wipe_out hi, List.getElem?_set_ne (fun e => by subst e; exact hi h)]
section
variable {G : Gam} {ρ : List Sl} {pos : Pos}
theorem bv_one {n : Nat} {z : Str} (hi : G.N[n]? = some z) (hx : Loc G.sc z) (hf : G.fn z = true ∨ G.sc.names.lookup z = some .local := by first | exact .inl rfl | exact .inr rfl) : BV G (.Name z pos) (.one n) := fun X hX =>
  ⟨gName n, pg_name (i := n) (by rw [hX.N]; exact hX.nd) (by rw [hX.N]; exact hi) (hX.loc hx) (hX.fnl hf), fun U B σ H ρ v x Q E r _ q => q _ (E.set r) fun vs hv => wipe_set (hv n List.mem_cons_self)⟩
/-- the names of a written tuple -/
inductive Names1 (G : Gam) : List Expr → List Nat → Prop
  | nil : Names1 G [] []
  | cons {n : Nat} {z : Str} {p : Pos} {es : List Expr} {ns : List Nat} : G.N[n]? = some z → Loc G.sc z → (G.fn z = true ∨ G.sc.names.lookup z = some .local) → Names1 G es ns → Names1 G (.Name z p :: es) (n :: ns)
theorem Names1.pgs {es : List Expr} {ns : List Nat} (h : Names1 G es ns) : ∀ X, Fits G X → ∃ t, PGs X es t ∧ ∀ (U : Und) (B : Bd) (σ : L2.St) (H : Hp) (ρ : List Sl) (vs : List V) (xs : List PV) (Q : L2.St → Hp → Prop), EnvR G.K U B H σ ρ → VRs G.K H B vs xs → xs.length = ns.length →
    (∀ σ', EnvR G.K U B H σ' (setAll ns xs ρ) → (∀ us, (∀ n ∈ ns, n ∈ us) → wipe σ' us = wipe σ us) → Q σ' H) → t vs σ H Q := by
  induction h with
  | nil =>
    refine fun X hX => ⟨_, pgs_nil, fun U B σ H ρ vs xs Q E r hl q => ?_⟩
    cases xs with
    | cons _ _ => cases hl
    | nil =>
      cases vs with
      | cons _ _ => cases r
      | nil => exact ⟨rfl, q σ E fun _ _ => rfl⟩
  | @cons n z p es ns hi hx hf _ ih =>
    refine fun X hX => ?_
    obtain ⟨t, ht, hq⟩ := ih X hX
    refine ⟨_, pgs_cons (pg_name (i := n) (by rw [hX.N]; exact hX.nd) (by rw [hX.N]; exact hi) (hX.loc hx) (hX.fnl hf)) ht, fun U B σ H ρ vs xs Q E r hl q => ?_⟩
    cases xs with
    | nil => cases hl
    | cons x xs =>
      cases vs with
      | nil => cases r
      | cons v vs =>
        refine ⟨v, vs, rfl, ?_⟩
        refine hq U B _ H _ vs xs Q (E.set r.head) r.tail (by simpa using hl) fun σ' E' hw => q σ' E' fun us hu => ?_
        rw [hw us fun m hm => hu m (List.mem_cons_of_mem _ hm), wipe_set (hu n List.mem_cons_self)]
theorem bv_many {es : List Expr} {ns : List Nat} {k : Nat} (h : Names1 G es ns) (hc : G.calm = true) (hn : ∀ env, (assignEach es env).length = ns.length := by intro _; rfl) (hst : ∀ env, (assignEach es env).findIdx? (·.1) = none := by intro _; rfl) : BV G (.Tuple es k pos) (.many ns) := fun X hX => by
  obtain ⟨t, ht, hq⟩ := h.pgs X hX
  refine ⟨_, pg_tup (by rw [hX.calm]; exact hc) ht (hn X.env) (hst X.env), fun U B σ H ρ v x Q E r hf q => ?_⟩
  cases x with
  | tup xs =>
    obtain ⟨a, ws, rfl, hT, rs⟩ := vr_tup r
    exact ⟨a, ws, rfl, by rw [hX.K]; exact hT, rs.length.trans hf, hq U B σ H ρ ws xs Q E rs hf q⟩
  | non => cases hf
  | bl _ => cases hf
  | int _ => cases hf
  | str _ => cases hf
  | lst _ => cases hf
  | exc _ _ _ _ _ => exact False.elim hf
end

/-! ### for, while -/
inductive LoopV (G : Gam) (T : Tg) (body : List Stmt) : List PV → List Sl → Out → Prop
  | nil {ρ} : LoopV G T body [] ρ (.nx ρ)
  | next {x xs ρ ρ1 out} : T.fits x → SS G (T.bind x ρ) body (.nx ρ1) → LoopV G T body xs ρ1 out → LoopV G T body (x :: xs) ρ out
  | cont {x xs ρ ρ1 out} : T.fits x → SS G (T.bind x ρ) body (.ct ρ1) → LoopV G T body xs ρ1 out → LoopV G T body (x :: xs) ρ out
  | brk {x xs ρ ρ1} : T.fits x → SS G (T.bind x ρ) body (.bk ρ1) → LoopV G T body (x :: xs) ρ (.nx ρ1)
  | ret {x xs ρ p} : T.fits x → SS G (T.bind x ρ) body (.rt p) → LoopV G T body (x :: xs) ρ (.rt p)
  | exc {x xs ρ ρ1 C ns ys} : T.fits x → SS G (T.bind x ρ) body (.xc ρ1 C ns ys) → LoopV G T body (x :: xs) ρ (.xc ρ1 C ns ys)
inductive WhileV (G : Gam) (c : Expr) (body : List Stmt) : Nat → List Sl → Out → Prop
  | stop {n ρ} : TV G ρ c false → WhileV G c body n ρ (.nx ρ)
  | next {n ρ ρ1 out} : TV G ρ c true → SS G ρ body (.nx ρ1) → WhileV G c body n ρ1 out → WhileV G c body (n + 1) ρ out
  | cont {n ρ ρ1 out} : TV G ρ c true → SS G ρ body (.ct ρ1) → WhileV G c body n ρ1 out → WhileV G c body (n + 1) ρ out
  | brk {n ρ ρ1} : TV G ρ c true → SS G ρ body (.bk ρ1) → WhileV G c body n ρ (.nx ρ1)
  | ret {n ρ p} : TV G ρ c true → SS G ρ body (.rt p) → WhileV G c body n ρ (.rt p)
  | exc {n ρ ρ1 C ns ys} : TV G ρ c true → SS G ρ body (.xc ρ1 C ns ys) → WhileV G c body n ρ (.xc ρ1 C ns ys)
section
variable {G : Gam} {ρ : List Sl} {c iter tg : Expr} {body : List Stmt} {out : Out} {pos : Pos} {its : List PV} {T : Tg}
theorem sv_for (hc : G.calm = true) (hi : IV G ρ tg iter its) (hb : BV G tg T) (h : LoopV G T body its ρ out) (hs : ∀ env x, foldedSetIterable iter env x = pure x := by intro _ _; rfl) : SV G ρ (.For tg iter body [] pos) out := by
  intro X E hX hA U B σ H D R hD
  obtain ⟨wi, hpi, hwi⟩ := hi X hX
  obtain ⟨g, hpg, hgq⟩ := hb X hX
  refine of_ps (ps_for hA.po (by rw [hX.calm]; exact hc) hpi hpg pss_w (hs X.env)) ?_
  refine hwi U B σ H _ R fun J gh H1 e1 hgh hit => ?_
  refine ⟨fun i m σ H => ∃ (B : Bd) (ρ : List Sl), EnvR G.K (U.add gh) B H σ ρ ∧ m = its.length - i ∧ i ≤ its.length ∧ LoopV G T body (its.drop i) ρ out, ⟨its.length, B, ρ, (R.mono e1).keep hgh, rfl, Nat.zero_le _, h⟩, ?_⟩
  rintro i m σ1 H2 ⟨B2, ρ2, R2, rfl, hle, hL⟩
  have hI := hit B2 H2 (R2.gh gh List.mem_cons_self) i
  have hD2 := hD.add (g := gh)
  by_cases hlt : i < its.length
  · obtain ⟨hgo, hy⟩ := hI.1 hlt
    refine .inr ⟨hgo, ?_⟩
    rw [List.drop_eq_getElem_cons hlt] at hL
    have step : ∀ {o2 : Out} (N : L2.St → Hp → Prop), T.fits its[i] → SS G (T.bind its[i] ρ2) body o2 → OutOk G.K (U.add gh) { D with nx := N, ct := N, bk := D.nx } E o2 →
        ∀ x H', J.yld i H2 x H' → g x σ1 H' fun σ3 H3 => wB X body { D with nx := N, ct := N, bk := D.nx } σ3 H3 := fun {o2} N hf hss ho x H' y => by
      obtain ⟨rfl, p, hp, r⟩ := hy x H' y
      rw [List.getElem?_eq_getElem hlt] at hp
      cases hp
      exact hgq (U.add gh) B2 σ1 H' ρ2 x _ _ R2 r hf fun σ3 R3 _ => hss X E hX hA _ _ _ _ _ R3 ho
    cases hL with
    | next hf hss hr =>
      refine ⟨fun σ' H' => ∃ B', EnvR G.K (U.add gh) B' H' σ' _, fun σ' H' ⟨B', R'⟩ => ⟨its.length - (i + 1), by omega, B', _, R', rfl, hlt, hr⟩, step _ hf hss fun B' σ' H' R' => ⟨B', R'⟩⟩
    | cont hf hss hr =>
      refine ⟨fun σ' H' => ∃ B', EnvR G.K (U.add gh) B' H' σ' _, fun σ' H' ⟨B', R'⟩ => ⟨its.length - (i + 1), by omega, B', _, R', rfl, hlt, hr⟩, step _ hf hss fun B' σ' H' R' => ⟨B', R'⟩⟩
    | brk hf hss => exact ⟨fun _ _ => False, fun _ _ z => z.elim, step _ hf hss hD2⟩
    | ret hf hss => exact ⟨fun _ _ => False, fun _ _ z => z.elim, step _ hf hss hD2⟩
    | exc hf hss => exact ⟨fun _ _ => False, fun _ _ z => z.elim, step _ hf hss hD2⟩
  · refine .inl ⟨hI.2 (Nat.le_of_not_lt hlt), ?_⟩
    rw [List.drop_eq_nil_of_le (Nat.le_of_not_lt hlt)] at hL
    cases hL
    exact hD2 B2 σ1 H2 R2
theorem sv_while {n : Nat} (h : WhileV G c body n ρ out) : SV G ρ (.While c body [] pos) out := by
  intro X E hX hA U B σ H D R hD
  refine of_ps (ps_while hA.po pt_w pss_w) ?_
  refine ⟨fun m σ H => ∃ (B : Bd) (ρ : List Sl), EnvR G.K U B H σ ρ ∧ WhileV G c body m ρ out, ⟨n, B, ρ, R, h⟩, ?_⟩
  rintro m σ1 H1 ⟨B1, ρ1, R1, hw⟩
  have step : ∀ {o2 : Out} (N : L2.St → Hp → Prop), TV G ρ1 c true → SS G ρ1 body o2 → OutOk G.K U { D with nx := N, ct := N, bk := D.nx } E o2 → (∀ σ' H', N σ' H' → ∃ m', m' < m ∧ ∃ (B : Bd) (ρ : List Sl), EnvR G.K U B H' σ' ρ ∧ WhileV G c body m' ρ out) →
      wT X c σ1 H1 fun b H2 => if b = true then ∃ N : L2.St → Hp → Prop, (∀ σ' H', N σ' H' → ∃ m', m' < m ∧ ∃ (B : Bd) (ρ : List Sl), EnvR G.K U B H' σ' ρ ∧ WhileV G c body m' ρ out) ∧ wB X body { D with nx := N, ct := N, bk := D.nx } σ1 H2 else D.nx σ1 H2 :=
    fun {o2} N ht hss ho hN => ht X hX _ _ _ _ _ R1 fun H2 e2 => (if_pos rfl).mpr ⟨N, hN, hss X E hX hA _ _ _ _ _ (R1.mono e2) ho⟩
  cases hw with
  | stop ht => exact ht X hX _ _ _ _ _ R1 fun H2 e2 => (if_neg Bool.false_ne_true).mpr (hD B1 σ1 H2 (R1.mono e2))
  | next ht hss hr => exact step (fun σ' H' => ∃ B', EnvR G.K U B' H' σ' _) ht hss (fun B' σ' H' R' => ⟨B', R'⟩) fun σ' H' ⟨B', R'⟩ => ⟨_, Nat.lt_succ_self _, B', _, R', hr⟩
  | cont ht hss hr => exact step (fun σ' H' => ∃ B', EnvR G.K U B' H' σ' _) ht hss (fun B' σ' H' R' => ⟨B', R'⟩) fun σ' H' ⟨B', R'⟩ => ⟨_, Nat.lt_succ_self _, B', _, R', hr⟩
  | brk ht hss => exact step (fun _ _ => False) ht hss hD fun _ _ z => z.elim
  | ret ht hss => exact step (fun _ _ => False) ht hss hD fun _ _ z => z.elim
  | exc ht hss => exact step (fun _ _ => False) ht hss hD fun _ _ z => z.elim
end
end VL

namespace VL
open PySem PySem.Spec PyProof.Rows L2
open Evl (Ex)
open L2H (RoomH HotC FnH)
section
variable {K : PySem.W.Frag} {U : Und} {B : Bd} {H H' H1 : Hp} {σ : L2.St} {ρ : List Sl} {D : Addr} {o : HO}
/-- a new thing is put among what may not be touched -/
theorem EnvR.track (E : EnvR K U B H1 σ ρ) (n : H1 D = none) (e : Ex H1 H) (h : H D = some o) : EnvR K U (fun a => B a ∨ a = D) H σ ρ where
  len := E.len
  up := fun b z => .inl (E.up b z)
  trk0 := E.trk0
  trk := fun b z => z.elim (fun z => let ⟨o, q⟩ := E.trk b z; ⟨o, e _ _ q⟩) fun z => ⟨o, z ▸ h⟩
  ex := E.ex.trans e
  gh := fun g hg => VRs.ext e (VRs.grow n (E.gh g hg))
  val := fun i p hp => let ⟨v, a, b⟩ := E.val i p hp; ⟨v, a, VRs.ext e (VRs.grow n b)⟩
  own := fun i xs hp => let ⟨a, vs, h1, h2, h3, h4, h5⟩ := E.own i xs hp; ⟨a, vs, h1, e _ _ h2, .inl h3, h4, VRs.ext e (VRs.grow n h5)⟩
  dis := E.dis
/-- a list among what may not be touched, that no slot owns, changes -/
theorem EnvR.mut (E : EnvR K U B H σ ρ) (hb : B D) {ys zs : List V} (hd : H D = some (.lst ys)) (h0 : U.H0 D = none) (hno : ∀ (i : Nat) (xs : List PV), ρ[i]? = some (.own xs) → σ[i]? ≠ some (some (.ref D))) : EnvR K U B (upd H D (.lst zs)) σ ρ where
  len := E.len
  up := E.up
  trk0 := E.trk0
  trk := fun b z => by
    by_cases e : b = D
    · exact ⟨_, by rw [e, upd_same]⟩
    · rw [upd_ne e]
      exact E.trk b z
  ex := E.ex.mut h0
  gh := fun g hg => VRs.mut hb hd (E.gh g hg)
  val := fun i p hp => let ⟨v, a, b⟩ := E.val i p hp; ⟨v, a, VRs.mut hb hd b⟩
  own := fun i xs hp => by
    obtain ⟨a, vs, h1, h2, h3, h4, h5⟩ := E.own i xs hp
    have ne : a ≠ D := fun e => hno i xs hp (e ▸ h1)
    exact ⟨a, vs, h1, (upd_ne ne).trans h2, h3, h4, VRs.mut hb hd h5⟩
  dis := E.dis
theorem EnvR.unset (E : EnvR K U B H σ ρ) {n : Nat} : EnvR K U B H (σ.set n none) (ρ.set n .no) where
  len := by rw [List.length_set, List.length_set]; exact E.len
  up := E.up
  trk0 := E.trk0
  trk := E.trk
  ex := E.ex
  gh := E.gh
  val := fun j q h => by
    by_cases e : n = j
    · subst e
      by_cases hl : n < ρ.length
      · rw [List.getElem?_set_self hl] at h; cases h
      · rw [List.getElem?_eq_none (by rw [List.length_set]; exact Nat.le_of_not_lt hl)] at h; cases h
    · rw [List.getElem?_set_ne e] at h
      rw [List.getElem?_set_ne e]
      exact E.val j q h
  own := fun j xs h => by
    by_cases e : n = j
    · subst e
      by_cases hl : n < ρ.length
      · rw [List.getElem?_set_self hl] at h; cases h
      · rw [List.getElem?_eq_none (by rw [List.length_set]; exact Nat.le_of_not_lt hl)] at h; cases h
    · rw [List.getElem?_set_ne e] at h
      rw [List.getElem?_set_ne e]
      exact E.own j xs h
  dis := fun j k xs ys a h1 h2 => by
    have ne : ∀ {j : Nat} {xs : List PV}, (ρ.set n .no)[j]? = some (.own xs) → n ≠ j := fun {j xs} h e => by
      subst e
      by_cases hl : n < ρ.length
      · rw [List.getElem?_set_self hl] at h; cases h
      · rw [List.getElem?_eq_none (by rw [List.length_set]; exact Nat.le_of_not_lt hl)] at h; cases h
    have n1 := ne h1
    have n2 := ne h2
    rw [List.getElem?_set_ne n1] at h1 ⊢
    rw [List.getElem?_set_ne n2] at h2 ⊢
    exact E.dis j k xs ys a h1 h2
def wipeR (ρ : List Sl) : List Nat → List Sl
  | [] => ρ
  | v :: vs => (wipeR ρ vs).set v .no
theorem EnvR.wipe (E : EnvR K U B H σ ρ) : ∀ vs : List Nat, EnvR K U B H (wipe σ vs) (wipeR ρ vs)
  | [] => E
  | v :: vs => by
    unfold L2.wipe wipeR
    exact (EnvR.wipe E vs).unset
end
/-! ### a new list -/
def NV (G : Gam) (ρ : List Sl) (e : Expr) (xs : List PV) : Prop := ∀ X, Fits G X → ∀ (U : Und) (B : Bd) (σ : L2.St) (H : Hp) (Q : VK), EnvR G.K U B H σ ρ →
  (∀ l vs H', Ex H H' → H l = none → H' l = some (.lst vs) → VRs G.K H' (fun a => B a ∨ a = l) vs xs → Q (.ref l) H') → wE X e σ H Q
section
variable {G : Gam} {ρ : List Sl} {a b c e : Expr} {es : List Expr} {pos : Pos} {xs : List PV} {p : PV} {i : Int}
theorem ev_nv (h : NV G ρ e xs) : EV G ρ e (.lst xs) := fun X hX U B σ H Q E q => h X hX _ _ _ _ _ E fun l vs H1 e1 n hl rs => q _ H1 e1 (.l (.inl ⟨E.fresh n, .inl hl⟩) (rs.anti fun a h => .inl h))
theorem lv_nv (h : NV G ρ e xs) : LV G ρ e xs := lv_val (ev_nv h)
theorem nv_lst (ha : AV G ρ es xs) (hl : xs.length ≤ 100000) : NV G ρ (.List es pos) xs := fun X hX U B σ H Q E q =>
  of_pe (pe_lst pa_w) (ha X hX _ _ _ _ _ E fun vs H1 e1 r1 => ⟨Evl.sz_of (by rw [r1.length]; exact hl), fun t nt => q t vs _ (e1.trans (Ex.new nt)) (Evl.fresh_back e1 nt) upd_same ((r1.grow nt).ext (Ex.new nt))⟩)
theorem nv_rep (ha : NV G ρ a xs) (hb : EV G ρ b (.int i)) (h1 : -(2 ^ 63) ≤ i) (h2 : i < 2 ^ 63) (hl : xs.length * i.toNat ≤ 100000) : NV G ρ (.BinOp a .Mult b pos) (List.replicate i.toNat xs).flatten := fun X hX U B σ H Q E q =>
  of_pe (pe_op op_rep pe_w pe_w) (ha X hX _ _ _ _ _ E fun l vs H1 e1 n hl1 rs => hb X hX _ _ _ _ _ (E.mono e1) fun w H2 e2 r2 =>
    ⟨l, i, vs, rfl, vr_int r2, e2 _ _ hl1, h1, h2, Evl.sz_of (by rw [rs.length]; exact hl), fun t nt => q t _ _ ((e1.trans e2).trans (Ex.new nt)) (Evl.fresh_back (e1.trans e2) nt) upd_same (by
      have base : VRs G.K (upd H2 t (.lst (List.replicate i.toNat vs).flatten)) (fun a => B a ∨ a = t) vs xs := VRs.ext (Ex.new nt) (VRs.grow nt (VRs.ext e2 (rs.anti fun a h => .inl h)))
      have rep : ∀ {H' : Hp} {B : Bd} (m : Nat), VRs G.K H' B vs xs → VRs G.K H' B (List.replicate m vs).flatten (List.replicate m xs).flatten := fun {H' B} m h => by
        induction m with
        | zero => exact .nil
        | succ m ih =>
          rw [List.replicate_succ, List.replicate_succ, List.flatten_cons, List.flatten_cons]
          exact h.append ih
      exact rep _ base)⟩)
end
/-! ### list comprehensions -/
def Gam.blk (G : Gam) (scope : Scope) : Gam := { G with sc := relS scope G.sc, fn := fun x => scope.names.lookup x == some .cell, ex := fun _ => True }
theorem Fits.blk {G : Gam} {X : Cx} (hX : Fits G X) (hc : G.calm = true) (s : Shared) (H : Hp) (scope : Scope) (C : Addr) (cl : List (Str × Addr)) (fp : List Addr) : Fits (G.blk scope) (X.blk s H scope (compEnvC scope cl C X.env) fp) :=
  ⟨hX.prog, hX.w, hX.K, hX.mg, hX.base, hX.N, (by
    show relS scope X.env.scope = relS scope G.sc
    rw [hX.sc]), rfl, hX.calm, hX.nd, hX.roomH, hX.room, (fun z => by
    have z' : G.calm = false := z
    rw [hc] at z'
    cases z'), trivial⟩
def wTs (X : Cx) (ifs : List Expr) : TT := fun σ H Q => ∃ t, PTs X ifs t ∧ t σ H Q
theorem pts_w {X : Cx} {ifs : List Expr} : PTs X ifs (wTs X ifs) := ⟨fun pins s σ H Q I ⟨t, h, q⟩ => h.run pins s σ H Q I q⟩
def wG (X : Cx) (tg : Expr) : TG := fun v σ H Q => ∃ g, PG X tg g ∧ g v σ H Q
theorem pg_w {X : Cx} {tg : Expr} : PG X tg (wG X tg) := ⟨fun pins s σ H v u Q I r ⟨g, h, q⟩ => h.run pins s σ H v u Q I r q⟩
def wI (X : Cx) (tg iter : Expr) : TI := fun σ H R => ∃ wi, PI X tg iter wi ∧ wi σ H R
theorem pi_w {X : Cx} {tg iter : Expr} : PI X tg iter (wI X tg iter) := ⟨fun pins s σ H R I ⟨wi, h, q⟩ => h.run pins s σ H R I q⟩
def TVs (G : Gam) (ρ : List Sl) (ifs : List Expr) (b : Bool) : Prop := ∀ X, Fits G X → ∀ (U : Und) (B : Bd) (σ : L2.St) (H : Hp) (Q : Bool → Hp → Prop), EnvR G.K U B H σ ρ → (∀ H', Ex H H' → Q b H') → wTs X ifs σ H Q
theorem tvs_nil {G : Gam} {ρ : List Sl} : TVs G ρ [] true := fun X hX U B σ H Q E q => ⟨_, pts_nil, q H (Ex.refl H)⟩
theorem tvs_one {G : Gam} {ρ : List Sl} {c : Expr} {b : Bool} (h : TV G ρ c b) : TVs G ρ [c] b := fun X hX U B σ H Q E q => ⟨_, pts_one pt_w, h X hX _ _ _ _ _ E q⟩
/-- for all blocks at once -/
def aT (X : Cx) (scope : Scope) (ifs : List Expr) : TT := fun σ H Q => ∀ (s : Shared) (H' : Hp) (C : Addr) (cl : List (Str × Addr)) (fp : List Addr), wTs (X.blk s H' scope (compEnvC scope cl C X.env) fp) ifs σ H Q
def aG (X : Cx) (scope : Scope) (tg : Expr) : TG := fun v σ H Q => ∀ (s : Shared) (H' : Hp) (C : Addr) (cl : List (Str × Addr)) (fp : List Addr), wG (X.blk s H' scope (compEnvC scope cl C X.env) fp) tg v σ H Q
def aE (X : Cx) (scope : Scope) (e : Expr) : TE := fun σ H Q => ∀ (s : Shared) (H' : Hp) (C : Addr) (cl : List (Str × Addr)) (fp : List Addr), wE (X.blk s H' scope (compEnvC scope cl C X.env) fp) e σ H Q
def aI (X : Cx) (scope : Scope) (tg iter : Expr) : TI := fun σ H R => ∀ (s : Shared) (H' : Hp) (C : Addr) (cl : List (Str × Addr)) (fp : List Addr), wI (X.blk s H' scope (compEnvC scope cl C X.env) fp) tg iter σ H R
section
variable {G : Gam} {ρ : List Sl} {elt tg iter tg1 iter1 : Expr} {ifs ifs1 : List Expr} {scope : Scope} {own : List (Str × Nat)} {pos spos : Pos} {its : List PV} {T T1 : Tg} {t : PV → Bool} {g : PV → PV}
theorem VRs.snoc {K : PySem.W.Frag} {H : Hp} {B : Bd} {vs : List V} {ps : List PV} {v : V} {p : PV} (h : VRs K H B vs ps) (r : VR K H B v p) : VRs K H B (vs ++ [v]) (ps ++ [p]) := h.append r
/-- the reading of [elt for tg in iter if ..] -/
theorem lc_read {X : Cx} (hX : Fits G X) (hc : G.calm = true) (hi : IV G ρ tg iter its) (hl : its.length ≤ 100000) (hb : BV (G.blk scope) tg T) (hT : ∀ n ∈ T.slots, n ∈ own.map (·.2))
    (hit : ∀ x ∈ its, T.fits x ∧ TVs (G.blk scope) (T.bind x (wipeR ρ (own.map (·.2)))) ifs (t x) ∧ (t x = true → EV (G.blk scope) (T.bind x (wipeR ρ (own.map (·.2)))) elt (g x)))
    {U : Und} {B : Bd} {σ : L2.St} {H : Hp} {Q : VK} (E : EnvR G.K U B H σ ρ) (q : ∀ l vs H', Ex H H' → H l = none → H' l = some (.lst vs) → VRs G.K H' (fun a => B a ∨ a = l) vs ((its.filter t).map g) → Q (.ref l) H') :
    tLc (wI X tg iter) (aG X scope tg) (aT X scope ifs) (aE X scope elt) (own.map (·.2)) σ H Q := by
  obtain ⟨wi, hpi, hwi⟩ := hi X hX
  refine ⟨wi, hpi, hwi U B σ H _ E fun J gh H1 e1 hgh hit' => ?_⟩
  intro D nD
  refine ⟨fun i m H2 => m = its.length - i ∧ i ≤ its.length ∧ Ex H1 H2 ∧ ∃ ws, H2 D = some (.lst ws) ∧ VRs G.K H2 (fun a => B a ∨ a = D) ws (((its.take i).filter t).map g), ⟨its.length, rfl, Nat.zero_le _, Ex.new nD, [], upd_same, .nil⟩, ?_⟩
  rintro i m H2 ⟨rfl, hle, e2, ws, hD, rs⟩
  have E2 : EnvR G.K (U.add gh) (fun a => B a ∨ a = D) H2 σ ρ := ((E.mono e1).keep hgh).track nD e2 hD
  have hI := hit' _ H2 (E2.gh gh List.mem_cons_self) i
  by_cases hlt : i < its.length
  · obtain ⟨hgo, hy⟩ := hI.1 hlt
    have hmem := hit its[i] (List.getElem_mem hlt)
    obtain ⟨hfit, htv, hev⟩ := hmem
    have tk : its.take (i + 1) = its.take i ++ [its[i]] := by rw [List.take_add_one, List.getElem?_eq_getElem hlt]; rfl
    refine .inr ⟨hgo, fun H3 => Ex H1 H3 ∧ ∃ ws, H3 D = some (.lst ws) ∧ VRs G.K H3 (fun a => B a ∨ a = D) ws (((its.take (i + 1)).filter t).map g), fun H3 ⟨h1, h2⟩ => ⟨its.length - (i + 1), by omega, rfl, hlt, h1, h2⟩, fun x H' y => ?_⟩
    obtain ⟨rfl, p, hp, r⟩ := hy x H' y
    rw [List.getElem?_eq_getElem hlt] at hp
    cases hp
    intro s H'' C cl fp
    obtain ⟨gg, hpg, hgq⟩ := hb _ (hX.blk hc s H'' scope C cl fp)
    refine ⟨gg, hpg, hgq (U.add gh) _ _ H' _ x _ _ (E2.wipe _) r hfit fun σ3 E3 hw => ⟨?_, ?_⟩⟩
    · rw [hw _ hT]
      apply List.ext_getElem?
      intro k
      by_cases hk : k ∈ own.map (·.2)
      · rw [wipe_at (n := 0) hk, wipe_at (n := 0) hk, wipe_length]
      · rw [wipe_out hk]
    · intro s H'' C cl fp
      refine htv _ (hX.blk hc s H'' scope C cl fp) _ _ _ _ _ E3 fun H4 e4 => ?_
      by_cases hb' : t its[i] = true
      · rw [if_pos hb']
        intro s H'' C cl fp
        refine hev hb' _ (hX.blk hc s H'' scope C cl fp) _ _ _ _ _ (E3.mono e4) fun y H5 e5 r5 => ?_
        have hD5 : H5 D = some (.lst ws) := e5 _ _ (e4 _ _ hD)
        refine ⟨ws, hD5, ?_, ?_, ws ++ [y], upd_same, ?_⟩
        · refine Evl.sz_lt ?_
          rw [rs.length, List.length_map]
          have := List.length_filter_le t (its.take i)
          rw [List.length_take] at this
          omega
        · exact ((e2.trans e4).trans e5).mut nD
        · rw [tk, List.filter_append, List.map_append]
          have e6 : ([its[i]].filter t).map g = [g its[i]] := by simp [hb']
          rw [e6]
          exact VRs.mut (.inr rfl) hD5 ((rs.ext (e4.trans e5)).snoc r5)
      · rw [if_neg hb']
        refine ⟨e2.trans e4, ws, e4 _ _ hD, ?_⟩
        rw [tk, List.filter_append, List.map_append]
        have e6 : ([its[i]].filter t).map g = [] := by simp [hb']
        rw [e6, List.append_nil]
        exact rs.ext e4
  · refine .inl ⟨hI.2 (Nat.le_of_not_lt hlt), ?_⟩
    have e3 : its.take i = its := List.take_of_length_le (Nat.le_of_not_lt hlt)
    rw [e3] at rs
    exact q D ws H2 (e1.trans e2) (Evl.fresh_back e1 nD) hD rs
theorem nv_lc (hc : G.calm = true) (hi : IV G ρ tg iter its) (hl : its.length ≤ 100000) (ok : BlkOk G.N G.sc scope own) (hb : BV (G.blk scope) tg T) (hT : ∀ n ∈ T.slots, n ∈ own.map (·.2))
    (hit : ∀ x ∈ its, T.fits x ∧ TVs (G.blk scope) (T.bind x (wipeR ρ (own.map (·.2)))) ifs (t x) ∧ (t x = true → EV (G.blk scope) (T.bind x (wipeR ρ (own.map (·.2)))) elt (g x)))
    (hs : ∀ env x, foldedSetIterable iter env x = pure x := by intro _ _; rfl) : NV G ρ (.ListComp elt [⟨tg, iter, ifs, 0⟩] scope pos) ((its.filter t).map g) := fun X hX U B σ H Q E q =>
  of_pe (pe_lc (own := own) (by rw [hX.calm]; exact hc) (by rw [hX.N]; exact hX.nd) pi_w (by rw [hX.N, hX.sc]; exact ok) (g := aG X scope tg) (tt := aT X scope ifs) (te := aE X scope elt)
    (fun s H C cl fp => ⟨fun pins s' σ H' v u Q I r h => pg_w.run pins s' σ H' v u Q I r (h s H C cl fp)⟩) (fun s H C cl fp => ⟨fun pins s' σ H' Q I h => pts_w.run pins s' σ H' Q I (h s H C cl fp)⟩)
    (fun s H C cl fp => ⟨fun pins s' σ H' Q I h => pe_w.run pins s' σ H' Q I (h s H C cl fp)⟩) (hs X.env)) (lc_read hX hc hi hl hb hT hit E q)
end
end VL

namespace VL
open PySem PySem.Spec PyProof.Rows L2
open Evl (Ex)
open L2H (RoomH HotC FnH)
section
variable {K : PySem.W.Frag} {U : Und} {B : Bd} {H H' H1 : Hp} {σ : L2.St} {ρ : List Sl} {a D : Addr} {n : Nat} {xs ys : List PV} {vs ws : List V}
theorem set_get {α : Type} {l : List α} {i j : Nat} {x y : α} (h : (l.set i x)[j]? = some y) : (i = j ∧ y = x) ∨ (i ≠ j ∧ l[j]? = some y) := by
  by_cases e : i = j
  · subst e
    by_cases hl : i < l.length
    · rw [List.getElem?_set_self hl] at h; exact .inl ⟨rfl, (Option.some.inj h).symm⟩
    · rw [List.getElem?_eq_none (by rw [List.length_set]; exact Nat.le_of_not_lt hl)] at h; cases h
  · rw [List.getElem?_set_ne e] at h
    exact .inr ⟨e, h⟩
theorem get_lt {α : Type} {l : List α} {i : Nat} {y : α} (h : l[i]? = some y) : i < l.length := (List.getElem?_eq_some_iff.mp h).1
/-- a slot gets a list of its own -/
theorem EnvR.setOwn (E : EnvR K U B H σ ρ) (h : H a = some (.lst vs)) (hb : B a) (h0 : U.H0 a = none) (r : VRs K H B vs xs) (hno : ∀ (j : Nat) (zs : List PV), ρ[j]? = some (.own zs) → j ≠ n → σ[j]? ≠ some (some (.ref a))) : EnvR K U B H (σ.set n (some (.ref a))) (ρ.set n (.own xs)) where
  len := by rw [List.length_set, List.length_set]; exact E.len
  up := E.up
  trk0 := E.trk0
  trk := E.trk
  ex := E.ex
  gh := E.gh
  val := fun j q hq => by
    rcases set_get hq with ⟨_, e⟩ | ⟨e, hq⟩
    · cases e
    · rw [List.getElem?_set_ne e]
      exact E.val j q hq
  own := fun j zs hq => by
    have hl := get_lt hq
    rw [List.length_set] at hl
    rcases set_get hq with ⟨e, e'⟩ | ⟨e, hq⟩
    · cases e'
      subst e
      exact ⟨a, vs, List.getElem?_set_self (by rw [E.len]; exact hl), h, hb, h0, r⟩
    · rw [List.getElem?_set_ne e]
      exact E.own j zs hq
  dis := fun i j zs us b h1 h2 h3 h4 => by
    have l1 := get_lt h1
    have l2 := get_lt h2
    rw [List.length_set, ← E.len] at l1 l2
    rcases set_get h1 with ⟨e1, _⟩ | ⟨e1, h1⟩
    · rcases set_get h2 with ⟨e2, _⟩ | ⟨e2, h2⟩
      · exact e1.symm.trans e2
      · subst e1
        rw [List.getElem?_set_self l1] at h3
        rw [List.getElem?_set_ne e2] at h4
        cases h3
        exact absurd h4 (hno j us h2 (Ne.symm e2))
    · rcases set_get h2 with ⟨e2, _⟩ | ⟨e2, h2⟩
      · subst e2
        rw [List.getElem?_set_self l2] at h4
        rw [List.getElem?_set_ne e1] at h3
        cases h4
        exact absurd h3 (hno i zs h1 (Ne.symm e1))
      · rw [List.getElem?_set_ne e1] at h3
        rw [List.getElem?_set_ne e2] at h4
        exact E.dis i j zs us b h1 h2 h3 h4
/-- the list that a slot owns changes -/
theorem EnvR.mutOwn (E : EnvR K U B H σ ρ) (hn : ρ[n]? = some (.own xs)) (hs : σ[n]? = some (some (.ref a))) (h : H a = some (.lst vs)) (r : VRs K H B ws ys) : EnvR K U B (upd H a (.lst ws)) σ (ρ.set n (.own ys)) := by
  obtain ⟨a', vs', h1, h2, h3, h4, h5⟩ := E.own n xs hn
  rw [hs] at h1
  cases h1
  refine ⟨by rw [List.length_set]; exact E.len, E.up, E.trk0, fun b z => ?_, E.ex.mut h4, fun g hg => VRs.mut h3 h (E.gh g hg), fun j q hq => ?_, fun j zs hq => ?_, fun i j zs us b h1 h2 h3 h4 => ?_⟩
  · by_cases e : b = a
    · exact ⟨_, by rw [e, upd_same]⟩
    · rw [upd_ne e]
      exact E.trk b z
  · rcases set_get hq with ⟨_, e⟩ | ⟨e, hq⟩
    · cases e
    · obtain ⟨v, q1, q2⟩ := E.val j q hq
      exact ⟨v, q1, VRs.mut h3 h q2⟩
  · rcases set_get hq with ⟨e, e'⟩ | ⟨e, hq⟩
    · cases e'
      subst e
      exact ⟨a, ws, hs, upd_same, h3, h4, VRs.mut h3 h r⟩
    · obtain ⟨b, us, q1, q2, q3, q4, q5⟩ := E.own j zs hq
      have ne : b ≠ a := fun z => e (E.dis n j xs zs a hn hq hs (z ▸ q1))
      exact ⟨b, us, q1, (upd_ne ne).trans q2, q3, q4, VRs.mut h3 h q5⟩
  · have back : ∀ {j : Nat} {zs : List PV}, (ρ.set n (.own ys))[j]? = some (.own zs) → ∃ zs', ρ[j]? = some (.own zs') := fun {j zs} hq => by
      rcases set_get hq with ⟨e, _⟩ | ⟨_, hq⟩
      · exact ⟨xs, e ▸ hn⟩
      · exact ⟨zs, hq⟩
    obtain ⟨z1, q1⟩ := back h1
    obtain ⟨z2, q2⟩ := back h2
    exact E.dis i j z1 z2 b q1 q2 h3 h4
/-- a list of one's own becomes a value -/
theorem EnvR.freeze (E : EnvR K U B H σ ρ) (hn : ρ[n]? = some (.own xs)) : ∃ B', EnvR K U B' H σ (ρ.set n (.val (.lst xs))) := by
  obtain ⟨a, vs, h1, h2, h3, h4, h5⟩ := E.own n xs hn
  have sub : ∀ b, (B b ∧ b ≠ a) → B b := fun _ h => h.1
  refine ⟨fun b => B b ∧ b ≠ a, by rw [List.length_set]; exact E.len, fun b z => ⟨E.up b z, fun e => ?_⟩, E.trk0, fun b z => E.trk b z.1, E.ex, fun g hg => VRs.anti sub (E.gh g hg), fun j q hq => ?_, fun j zs hq => ?_, fun i j zs us b h1 h2 h3 h4 => ?_⟩
  · obtain ⟨o, ho⟩ := E.trk0 b z
    rw [e, h4] at ho
    cases ho
  · rcases set_get hq with ⟨e, e'⟩ | ⟨e, hq⟩
    · cases e'
      subst e
      exact ⟨_, h1, .l (.inl ⟨fun z => z.2 rfl, .inl h2⟩) (VRs.anti sub h5)⟩
    · obtain ⟨v, q1, q2⟩ := E.val j q hq
      exact ⟨v, q1, VRs.anti sub q2⟩
  · rcases set_get hq with ⟨e, e'⟩ | ⟨e, hq⟩
    · cases e'
    · obtain ⟨b, us, q1, q2, q3, q4, q5⟩ := E.own j zs hq
      have ne : b ≠ a := fun z => e (E.dis n j xs zs a hn hq h1 (z ▸ q1))
      exact ⟨b, us, q1, q2, ⟨q3, ne⟩, q4, VRs.anti sub q5⟩
  · rcases set_get h1 with ⟨_, e⟩ | ⟨_, h1⟩
    · cases e
    · rcases set_get h2 with ⟨_, e⟩ | ⟨_, h2⟩
      · cases e
      · exact E.dis i j zs us b h1 h2 h3 h4
/-- a new list for a slot -/
theorem EnvR.newOwn (E : EnvR K U B H σ ρ) (nD : H D = none) (e : Ex H H1) (hD : H1 D = some (.lst vs)) (r : VRs K H1 (fun b => B b ∨ b = D) vs xs) : EnvR K U (fun b => B b ∨ b = D) H1 (σ.set n (some (.ref D))) (ρ.set n (.own xs)) :=
  (E.track nD e hD).setOwn hD (.inr rfl) (E.gone nD) r fun j zs hj _ hs => by
    obtain ⟨b, us, q1, q2, _⟩ := E.own j zs hj
    rw [hs] at q1
    cases q1
    rw [nD] at q2
    cases q2
end
section
variable {G : Gam} {ρ : List Sl} {a b c e : Expr} {es : List Expr} {st : Stmt} {sts : List Stmt} {out : Out} {pos p1 p2 p3 : Pos} {xs : List PV} {p q : PV} {i : Int} {n : Nat} {z : Str}
theorem ss_freeze (hn : ρ[n]? = some (.own xs)) (h : SS G (ρ.set n (.val (.lst xs))) sts out) : SS G ρ sts out := fun X E hX hA U B σ H D R hD => by
  obtain ⟨B', R'⟩ := R.freeze hn
  exact h X E hX hA U B' σ H D R' hD
theorem sv_freeze (hn : ρ[n]? = some (.own xs)) (h : SV G (ρ.set n (.val (.lst xs))) st out) : SV G ρ st out := fun X E hX hA U B σ H D R hD => by
  obtain ⟨B', R'⟩ := R.freeze hn
  exact h X E hX hA U B' σ H D R' hD
theorem sv_own (hi : G.N[n]? = some z) (hx : Loc G.sc z) (he : NV G ρ e xs) (hf : G.fn z = true ∨ G.sc.names.lookup z = some .local := by first | exact .inl rfl | exact .inr rfl)
    (hs : ∀ env, swapsWith e (some (.Name z p1)) pos.line env = pure false := by intro _; rfl) : SV G ρ (.Assign [.Name z p1] e pos) (.nx (ρ.set n (.own xs))) := fun X E hX hA U B σ H D R h =>
  of_ps (ps_set (i := n) (by rw [hX.N]; exact hX.nd) (by rw [hX.N]; exact hi) (hX.loc hx) pe_w (hs X.env) (hX.fnl hf)) (he X hX _ _ _ _ _ R fun l vs H1 e1 nl hl rs => h _ _ H1 (R.newOwn nl e1 hl rs))
/-- x.append(e) -/
theorem sv_append (hi : G.N[n]? = some z) (hv : Vis G.sc z) (hn : ρ[n]? = some (.own xs)) (he : EV G ρ e p) (hl : xs.length < 100000) (hd : (z == ("__debug__" : Str)) = false := by decide) (hcd : (z == ("__classdict__" : Str)) = false := by decide)
    (hs : ∀ env, starEach [e] env = [(false, eval e env)] := by intro _; rfl) (hbase : ∀ env, attributeBase (.Name z p1) "append" env (eval (.Name z p1) env) = eval (.Name z p1) env := by intro _; rfl) (hline : (p2.endLine == p3.line) = true := by rfl) :
    SV G ρ (.Expr (.Call (.Attribute (.Name z p1) "append" p2) [e] [] p3) pos) (.nx (ρ.set n (.own (xs ++ [p])))) := fun X E hX hA U B σ H D R h => by
  obtain ⟨l, vs, h1, h2, h3, h4, h5⟩ := R.own n xs hn
  have few : ((backTo p3 (starEach [e] X.env)).all (fun x => !x.1) && (backToKw p3 (keywordEach [] X.env)).all (fun x => x.1.isSome) && decide ([e].length + ([] : List Keyword).length + (if ([] : List Keyword).isEmpty then 0 else 1) < 30)) = true := by rw [hs X.env]; rfl
  refine of_ps (ps_expr (pe_bm PySem.F.plainAttrs_list PySem.F.slot_list_append PySem.F.type_list_append mt_append (pe_var (i := n) (by rw [hX.N]; exact hi) (by rw [hX.sc]; exact hv) hd hcd) (pa_cons pe_w pa_nil (hs X.env)) (hbase X.env) few hline (hs X.env) rfl)) ?_
  refine ⟨_, h1, .inl ⟨rfl, _, Evl.sq_of h2⟩, he X hX _ _ _ _ _ R fun v H1 e1 r1 => ?_⟩
  have h2' := e1 _ _ h2
  refine ⟨l, vs, v, rfl, rfl, h2', Evl.sz_lt (by rw [h5.length]; exact hl), h B σ _ ((R.mono e1).mutOwn hn h1 h2' ((h5.ext e1).snoc r1))⟩
/-- x[i] = e -/
theorem sv_setAt {m : Nat} (hi : G.N[n]? = some z) (hv : Vis G.sc z) (hn : ρ[n]? = some (.own xs)) (he : EV G ρ e p) (hb : EV G ρ b (.int i)) (him : i = (m : Int)) (hm : m < xs.length) (hd : (z == ("__debug__" : Str)) = false := by decide) (hcd : (z == ("__classdict__" : Str)) = false := by decide)
    (hs : ∀ env, swapsWithSole [.Subscript (.Name z p1) b p2] e pos.line env = pure false := by intro _; rfl) (hw : ∀ env, swappedStores [.Subscript (.Name z p1) b p2] e env = pure none := by intro _; rfl)
    (h1' : ∀ env, (assignEach [.Subscript (.Name z p1) b p2] env).map (·.2) = [assign (.Subscript (.Name z p1) b p2) env] := by intro _; rfl)
    (ha : ∀ env v, assign (.Subscript (.Name z p1) b p2) env v = (do
      let ov ← holding [v] (eval (.Name z p1) env)
      let iv ← holding [v, ov] (eval b env)
      standAt p2
      holding [v, ov, iv] (setItem ov iv v)
      release [v, ov, iv] []) := by intro _ _; rfl) : SV G ρ (.Assign [.Subscript (.Name z p1) b p2] e pos) (.nx (ρ.set n (.own (xs.set m p)))) := fun X E hX hA U B σ H D R h => by
  obtain ⟨l, vs, h1, h2, h3, h4, h5⟩ := R.own n xs hn
  refine of_ps (ps_asg pe_w (pg_sub (pe_var (i := n) (by rw [hX.N]; exact hi) (by rw [hX.sc]; exact hv) hd hcd) pe_w set_list (ha X.env)) (hs X.env) (hw X.env) (h1' X.env)) ?_
  refine he X hX _ _ _ _ _ R fun v H1 e1 r1 => ⟨_, h1, hb X hX _ _ _ _ _ (R.mono e1) fun w H2 e2 r2 => ?_⟩
  have h2' := e2 _ _ (e1 _ _ h2)
  refine ⟨l, vs, i, m, rfl, vr_int r2, h2', by rw [him]; exact Evl.ixN_nat (by rw [h5.length]; exact hm), h B σ _ ((R.mono (e1.trans e2)).mutOwn hn h1 h2' ((h5.ext (e1.trans e2)).set (r1.ext e2) m))⟩
/-- names of a written tuple get the items of a tuple -/
theorem sv_unpack {ts : List Expr} {ns : List Nat} {k : Nat} (h : Names1 G ts ns) (hc : G.calm = true) (he : EV G ρ e (.tup xs)) (hl : xs.length = ns.length) (hn : ∀ env, (assignEach ts env).length = ns.length := by intro _; rfl) (hst : ∀ env, (assignEach ts env).findIdx? (·.1) = none := by intro _; rfl)
    (hs : ∀ env, swapsWithSole [.Tuple ts k p1] e pos.line env = pure false := by intro _; rfl) (hw : ∀ env, swappedStores [.Tuple ts k p1] e env = pure none := by intro _; rfl)
    (h1' : ∀ env, (assignEach [.Tuple ts k p1] env).map (·.2) = [assign (.Tuple ts k p1) env] := by intro _; rfl) : SV G ρ (.Assign [.Tuple ts k p1] e pos) (.nx (setAll ns xs ρ)) := fun X E hX hA U B σ H D R hD => by
  obtain ⟨g, hg, hq⟩ := bv_many (k := k) (pos := p1) h hc hn hst X hX
  refine of_ps (ps_asg pe_w hg (hs X.env) (hw X.env) (h1' X.env)) (he X hX _ _ _ _ _ R fun v H1 e1 r1 => ?_)
  exact hq U B σ H1 ρ v (.tup xs) _ (R.mono e1) r1 hl fun σ' R' _ => hD B σ' H1 R'
/-- x, y = a, b -/
theorem sv_par {m : Nat} {y : Str} {kt k2 : Nat} {pt2 : Pos} (hc : G.calm = true) (hi : G.N[n]? = some z) (hj : G.N[m]? = some y) (hij : n ≠ m) (hx : G.sc.names.lookup z = some .local) (hy : G.sc.names.lookup y = some .local) (ha : EV G ρ a p) (hb : EV G ρ b q)
    (hw : ∀ env : Env, env.scope = G.sc → swappedStores [.Tuple [.Name z p1, .Name y p2] kt p3] (.Tuple [a, b] k2 pt2) env = pure (some [z, y]))
    (hs : ∀ env, swapsWithSole [.Tuple [.Name z p1, .Name y p2] kt p3] (.Tuple [a, b] k2 pt2) pos.line env = pure false := by intro _; rfl)
    (hs1 : ∀ env, starEach [a, b] env = [(false, eval a env), (false, eval b env)] := by intro _; rfl) (hs2 : ∀ env, starEach [b] env = [(false, eval b env)] := by intro _; rfl) :
    SV G ρ (.Assign [.Tuple [.Name z p1, .Name y p2] kt p3] (.Tuple [a, b] k2 pt2) pos) (.nx ((ρ.set n (.val p)).set m (.val q))) := fun X E hX hA U B σ H D R hD =>
  of_ps (ps_par (i := n) (j := m) (by rw [hX.calm]; exact hc) (by rw [hX.N]; exact hX.nd) (by rw [hX.N]; exact hi) (by rw [hX.N]; exact hj) hij (by rw [hX.sc]; exact hx) (by rw [hX.sc]; exact hy) (pa_cons pe_w (pa_cons pe_w pa_nil (hs2 X.env)) (by rw [hs1, hs2])) (hw X.env hX.sc) (hs X.env))
    (ha X hX _ _ _ _ _ R fun v H1 e1 r1 => hb X hX _ _ _ _ _ (R.mono e1) fun w H2 e2 r2 => ⟨v, w, rfl, hD B _ H2 (((R.mono (e1.trans e2)).set (r1.ext e2)).set r2)⟩)
end
/-! ### a comprehension is stored -/
section
variable {G : Gam} {ρ : List Sl} {elt tg iter : Expr} {ifs : List Expr} {scope : Scope} {own : List (Str × Nat)} {pos spos py : Pos} {its : List PV} {T : Tg} {t : PV → Bool} {g : PV → PV} {n : Nat} {z : Str}
theorem sv_lcO (hi' : G.N[n]? = some z) (hz : G.sc.names.lookup z = some .local) (hk : G.sc.kind = .function) (hln : (py.line == pos.line) = true) (han : (scope.names.any fun (n, k) => n == z && (k == .local || k == .cell)) = false)
    (hc : G.calm = true) (hi : IV G ρ tg iter its) (hl : its.length ≤ 100000) (ok : BlkOk G.N G.sc scope own) (hb : BV (G.blk scope) tg T) (hT : ∀ n ∈ T.slots, n ∈ own.map (·.2))
    (hit : ∀ x ∈ its, T.fits x ∧ TVs (G.blk scope) (T.bind x (wipeR ρ (own.map (·.2)))) ifs (t x) ∧ (t x = true → EV (G.blk scope) (T.bind x (wipeR ρ (own.map (·.2)))) elt (g x)))
    (hs : ∀ env x, foldedSetIterable iter env x = pure x := by intro _ _; rfl) : SV G ρ (.Assign [.Name z py] (.ListComp elt [⟨tg, iter, ifs, 0⟩] scope pos) spos) (.nx (ρ.set n (.own ((its.filter t).map g)))) := fun X E hX hA U B σ H D R h =>
  of_ps (ps_setLc (i := n) (own := own) (by rw [hX.calm]; exact hc) (by rw [hX.N]; exact hX.nd) (by rw [hX.N]; exact hi') (by rw [hX.sc]; exact hz) (sw_true (by rw [hX.sc]; exact hk) (by rw [hX.sc]; exact hz) hln han) pi_w (by rw [hX.N, hX.sc]; exact ok) (g := aG X scope tg) (tt := aT X scope ifs) (te := aE X scope elt)
    (fun s H C cl fp => ⟨fun pins s' σ H' v u Q I r h => pg_w.run pins s' σ H' v u Q I r (h s H C cl fp)⟩) (fun s H C cl fp => ⟨fun pins s' σ H' Q I h => pts_w.run pins s' σ H' Q I (h s H C cl fp)⟩)
    (fun s H C cl fp => ⟨fun pins s' σ H' Q I h => pe_w.run pins s' σ H' Q I (h s H C cl fp)⟩) (hs X.env)) (lc_read hX hc hi hl hb hT hit R fun l vs H1 e1 nl hl rs => h _ _ H1 (R.newOwn nl e1 hl rs))
theorem ss_own_val {ρ : List Sl} {n : Nat} {xs : List PV} {st : Stmt} {rest : List Stmt} {out : Out} (h1 : SV G ρ st (.nx (ρ.set n (.own xs)))) (hn : n < ρ.length) (h2 : SS G (ρ.set n (.val (.lst xs))) rest out) : SS G ρ (st :: rest) out :=
  ss_cons h1 (ss_freeze (List.getElem?_set_self hn) (by rw [List.set_set]; exact h2))
end
end VL

namespace VL
open PySem PySem.Spec PyProof.Rows L2
open Evl (Ex)
section
variable {G : Gam} {ρ : List Sl} {elt tg iter : Expr} {ifs : List Expr} {scope : Scope} {own : List (Str × Nat)} {pos spos py : Pos} {T : Tg} {α : Type} {xs : List α} {inj : α → PV} {t : α → Bool} {g : α → PV} {n : Nat} {z : Str}
theorem NV.to {e : Expr} {xs ys : List PV} (h : NV G ρ e xs) (q : xs = ys) : NV G ρ e ys := q ▸ h
theorem EV.to {e : Expr} {p q : PV} (h : EV G ρ e p) (z : p = q) : EV G ρ e q := z ▸ h
theorem TV.to {e : Expr} {p q : Bool} (h : TV G ρ e p) (z : p = q) : TV G ρ e q := z ▸ h
theorem IV.to {e tg : Expr} {p q : List PV} (h : IV G ρ tg e p) (z : p = q) : IV G ρ tg e q := z ▸ h
theorem SS.to {sts : List Stmt} {p q : Out} (h : SS G ρ sts p) (z : p = q) : SS G ρ sts q := z ▸ h
/-- over items of a kind -/
theorem lc_readM {X : Cx} (hX : Fits G X) (hc : G.calm = true) (hi : IV G ρ tg iter (xs.map inj)) (hl : xs.length ≤ 100000) (hb : BV (G.blk scope) tg T) (hT : ∀ n ∈ T.slots, n ∈ own.map (·.2))
    (hit : ∀ x ∈ xs, T.fits (inj x) ∧ TVs (G.blk scope) (T.bind (inj x) (wipeR ρ (own.map (·.2)))) ifs (t x) ∧ (t x = true → EV (G.blk scope) (T.bind (inj x) (wipeR ρ (own.map (·.2)))) elt (g x)))
    {U : Und} {B : Bd} {σ : L2.St} {H : Hp} {Q : VK} (E : EnvR G.K U B H σ ρ) (q : ∀ l vs H', Ex H H' → H l = none → H' l = some (.lst vs) → VRs G.K H' (fun a => B a ∨ a = l) vs ((xs.filter t).map g) → Q (.ref l) H') :
    tLc (wI X tg iter) (aG X scope tg) (aT X scope ifs) (aE X scope elt) (own.map (·.2)) σ H Q := by
  obtain ⟨wi, hpi, hwi⟩ := hi X hX
  refine ⟨wi, hpi, hwi U B σ H _ E fun J gh H1 e1 hgh hit' => ?_⟩
  intro D nD
  refine ⟨fun i m H2 => m = xs.length - i ∧ i ≤ xs.length ∧ Ex H1 H2 ∧ ∃ ws, H2 D = some (.lst ws) ∧ VRs G.K H2 (fun a => B a ∨ a = D) ws (((xs.take i).filter t).map g), ⟨xs.length, rfl, Nat.zero_le _, Ex.new nD, [], upd_same, .nil⟩, ?_⟩
  rintro i m H2 ⟨rfl, hle, e2, ws, hD, rs⟩
  have E2 : EnvR G.K (U.add gh) (fun a => B a ∨ a = D) H2 σ ρ := ((E.mono e1).keep hgh).track nD e2 hD
  have hI := hit' _ H2 (E2.gh gh List.mem_cons_self) i
  rw [List.length_map] at hI
  by_cases hlt : i < xs.length
  · obtain ⟨hgo, hy⟩ := hI.1 hlt
    have hmem := hit xs[i] (List.getElem_mem hlt)
    obtain ⟨hfit, htv, hev⟩ := hmem
    have tk : xs.take (i + 1) = xs.take i ++ [xs[i]] := by rw [List.take_add_one, List.getElem?_eq_getElem hlt]; rfl
    refine .inr ⟨hgo, fun H3 => Ex H1 H3 ∧ ∃ ws, H3 D = some (.lst ws) ∧ VRs G.K H3 (fun a => B a ∨ a = D) ws (((xs.take (i + 1)).filter t).map g), fun H3 ⟨h1, h2⟩ => ⟨xs.length - (i + 1), by omega, rfl, hlt, h1, h2⟩, fun x H' y => ?_⟩
    obtain ⟨rfl, p, hp, r⟩ := hy x H' y
    rw [List.getElem?_map, List.getElem?_eq_getElem hlt] at hp
    cases hp
    intro s H'' C cl fp
    obtain ⟨gg, hpg, hgq⟩ := hb _ (hX.blk hc s H'' scope C cl fp)
    refine ⟨gg, hpg, hgq (U.add gh) _ _ H' _ x _ _ (E2.wipe _) r hfit fun σ3 E3 hw => ⟨?_, ?_⟩⟩
    · rw [hw _ hT]
      apply List.ext_getElem?
      intro k
      by_cases hk : k ∈ own.map (·.2)
      · rw [wipe_at (n := 0) hk, wipe_at (n := 0) hk, wipe_length]
      · rw [wipe_out hk]
    · intro s H'' C cl fp
      refine htv _ (hX.blk hc s H'' scope C cl fp) _ _ _ _ _ E3 fun H4 e4 => ?_
      by_cases hb' : t xs[i] = true
      · rw [if_pos hb']
        intro s H'' C cl fp
        refine hev hb' _ (hX.blk hc s H'' scope C cl fp) _ _ _ _ _ (E3.mono e4) fun y H5 e5 r5 => ?_
        have hD5 : H5 D = some (.lst ws) := e5 _ _ (e4 _ _ hD)
        refine ⟨ws, hD5, ?_, ?_, ws ++ [y], upd_same, ?_⟩
        · refine Evl.sz_lt ?_
          rw [rs.length, List.length_map]
          have := List.length_filter_le t (xs.take i)
          rw [List.length_take] at this
          omega
        · exact ((e2.trans e4).trans e5).mut nD
        · rw [tk, List.filter_append, List.map_append]
          have e6 : ([xs[i]].filter t).map g = [g xs[i]] := by simp [hb']
          rw [e6]
          exact VRs.mut (.inr rfl) hD5 ((rs.ext (e4.trans e5)).snoc r5)
      · rw [if_neg hb']
        refine ⟨e2.trans e4, ws, e4 _ _ hD, ?_⟩
        rw [tk, List.filter_append, List.map_append]
        have e6 : ([xs[i]].filter t).map g = [] := by simp [hb']
        rw [e6, List.append_nil]
        exact rs.ext e4
  · refine .inl ⟨hI.2 (Nat.le_of_not_lt hlt), ?_⟩
    have e3 : xs.take i = xs := List.take_of_length_le (Nat.le_of_not_lt hlt)
    rw [e3] at rs
    exact q D ws H2 (e1.trans e2) (Evl.fresh_back e1 nD) hD rs
theorem nv_lcM (own : List (Str × Nat)) (T : Tg) (inj : α → PV) (xs : List α) (t : α → Bool) (g : α → PV) (hc : G.calm = true) (hi : IV G ρ tg iter (xs.map inj)) (hl : xs.length ≤ 100000) (ok : BlkOk G.N G.sc scope own) (hb : BV (G.blk scope) tg T) (hT : ∀ n ∈ T.slots, n ∈ own.map (·.2))
    (hit : ∀ x ∈ xs, T.fits (inj x) ∧ TVs (G.blk scope) (T.bind (inj x) (wipeR ρ (own.map (·.2)))) ifs (t x) ∧ (t x = true → EV (G.blk scope) (T.bind (inj x) (wipeR ρ (own.map (·.2)))) elt (g x)))
    (hs : ∀ env x, foldedSetIterable iter env x = pure x := by intro _ _; rfl) : NV G ρ (.ListComp elt [⟨tg, iter, ifs, 0⟩] scope pos) ((xs.filter t).map g) := fun X hX U B σ H Q E q =>
  of_pe (pe_lc (own := own) (by rw [hX.calm]; exact hc) (by rw [hX.N]; exact hX.nd) pi_w (by rw [hX.N, hX.sc]; exact ok) (g := aG X scope tg) (tt := aT X scope ifs) (te := aE X scope elt)
    (fun s H C cl fp => ⟨fun pins s' σ H' v u Q I r h => pg_w.run pins s' σ H' v u Q I r (h s H C cl fp)⟩) (fun s H C cl fp => ⟨fun pins s' σ H' Q I h => pts_w.run pins s' σ H' Q I (h s H C cl fp)⟩)
    (fun s H C cl fp => ⟨fun pins s' σ H' Q I h => pe_w.run pins s' σ H' Q I (h s H C cl fp)⟩) (hs X.env)) (lc_readM hX hc hi hl hb hT hit E q)
/-- .. without a test -/
theorem nv_lcA (own : List (Str × Nat)) (T : Tg) (inj : α → PV) (xs : List α) (g : α → PV) (hc : G.calm = true) (hi : IV G ρ tg iter (xs.map inj)) (hl : xs.length ≤ 100000) (ok : BlkOk G.N G.sc scope own) (hb : BV (G.blk scope) tg T) (hT : ∀ n ∈ T.slots, n ∈ own.map (·.2))
    (hit : ∀ x ∈ xs, T.fits (inj x) ∧ EV (G.blk scope) (T.bind (inj x) (wipeR ρ (own.map (·.2)))) elt (g x))
    (hs : ∀ env x, foldedSetIterable iter env x = pure x := by intro _ _; rfl) : NV G ρ (.ListComp elt [⟨tg, iter, [], 0⟩] scope pos) (xs.map g) := by
  have h := nv_lcM (G := G) (ρ := ρ) (elt := elt) (tg := tg) (iter := iter) (ifs := []) (scope := scope) (pos := pos) own T inj xs (fun _ => true) g hc hi hl ok hb hT (fun x hx => ⟨(hit x hx).1, tvs_nil, fun _ => (hit x hx).2⟩) hs
  have e : xs.filter (fun _ => true) = xs := List.filter_eq_self.mpr fun _ _ => rfl
  rw [e] at h
  exact h
/-- .. stored by a name -/
theorem sv_lcM (own : List (Str × Nat)) (T : Tg) (inj : α → PV) (xs : List α) (t : α → Bool) (g : α → PV) (hi' : G.N[n]? = some z) (hz : G.sc.names.lookup z = some .local) (hk : G.sc.kind = .function) (hln : (py.line == pos.line) = true) (han : (scope.names.any fun (n, k) => n == z && (k == .local || k == .cell)) = false)
    (hc : G.calm = true) (hi : IV G ρ tg iter (xs.map inj)) (hl : xs.length ≤ 100000) (ok : BlkOk G.N G.sc scope own) (hb : BV (G.blk scope) tg T) (hT : ∀ n ∈ T.slots, n ∈ own.map (·.2))
    (hit : ∀ x ∈ xs, T.fits (inj x) ∧ TVs (G.blk scope) (T.bind (inj x) (wipeR ρ (own.map (·.2)))) ifs (t x) ∧ (t x = true → EV (G.blk scope) (T.bind (inj x) (wipeR ρ (own.map (·.2)))) elt (g x)))
    (hs : ∀ env x, foldedSetIterable iter env x = pure x := by intro _ _; rfl) : SV G ρ (.Assign [.Name z py] (.ListComp elt [⟨tg, iter, ifs, 0⟩] scope pos) spos) (.nx (ρ.set n (.own ((xs.filter t).map g)))) := fun X E hX hA U B σ H D R h =>
  of_ps (ps_setLc (i := n) (own := own) (by rw [hX.calm]; exact hc) (by rw [hX.N]; exact hX.nd) (by rw [hX.N]; exact hi') (by rw [hX.sc]; exact hz) (sw_true (by rw [hX.sc]; exact hk) (by rw [hX.sc]; exact hz) hln han) pi_w (by rw [hX.N, hX.sc]; exact ok) (g := aG X scope tg) (tt := aT X scope ifs) (te := aE X scope elt)
    (fun s H C cl fp => ⟨fun pins s' σ H' v u Q I r h => pg_w.run pins s' σ H' v u Q I r (h s H C cl fp)⟩) (fun s H C cl fp => ⟨fun pins s' σ H' Q I h => pts_w.run pins s' σ H' Q I (h s H C cl fp)⟩)
    (fun s H C cl fp => ⟨fun pins s' σ H' Q I h => pe_w.run pins s' σ H' Q I (h s H C cl fp)⟩) (hs X.env)) (lc_readM hX hc hi hl hb hT hit R fun l vs H1 e1 nl hl rs => h _ _ H1 (R.newOwn nl e1 hl rs))
end
theorem rng_map (lo : Int) (n : Nat) : rng lo n = ((List.range n).map fun (k : Nat) => lo + (k : Int)).map PV.int := by
  unfold rng
  rw [List.map_map]
  rfl
/-- the ints from lo below hi -/
def span (lo hi : Int) : List Int := (List.range (hi - lo).toNat).map fun (k : Nat) => lo + (k : Int)
theorem mem_span {lo hi x : Int} : x ∈ span lo hi ↔ lo ≤ x ∧ x < hi := by
  unfold span
  constructor
  · intro h
    obtain ⟨k, hk, rfl⟩ := List.mem_map.mp h
    have := List.mem_range.mp hk
    omega
  · intro h
    exact List.mem_map.mpr ⟨(x - lo).toNat, List.mem_range.mpr (by omega), by omega⟩
theorem span_len (lo hi : Int) : (span lo hi).length = (hi - lo).toNat := by simp [span]
theorem rng_span2 (lo hi : Int) : rng lo (hi - lo).toNat = (span lo hi).map PV.int := rng_map lo _
theorem rng_span1 (hi : Int) : rng 0 hi.toNat = (span 0 hi).map PV.int := by
  have : hi.toNat = (hi - 0).toNat := by omega
  rw [this]
  exact rng_map 0 _
end VL

namespace VL
open PySem PySem.Spec PyProof.Rows L2
open Evl (Ex)
section
variable {K : PySem.W.Frag} {B0 B : Bd} {H0 H H1 : Hp} {gs : List (V × PV)} {σ : L2.St} {ρ : List Sl} {D : Addr}
theorem EnvR.open_ (E : EnvR K ⟨B0, H0, gs⟩ B H1 σ ρ) (n : H1 D = none) : EnvR K ⟨B0, upd H0 D (.lst []), gs⟩ (fun b => B b ∨ b = D) (upd H1 D (.lst [])) σ ρ := by
  have T := E.track n (Ex.new n) (o := .lst []) upd_same
  have n0 : H0 D = none := Evl.fresh_back E.ex n
  refine ⟨T.len, T.up, fun b z => ?_, T.trk, fun b o h => ?_, T.gh, T.val, fun i xs hp => ?_, T.dis⟩
  · obtain ⟨o, ho⟩ := E.trk0 b z
    have ho' : H0 b = some o := ho
    exact ⟨o, (upd_ne (fun e => by rw [e, n0] at ho'; cases ho')).trans ho'⟩
  · have h : upd H0 D (.lst []) b = some o := h
    by_cases e : b = D
    · rw [e, upd_same] at h ⊢
      exact h
    · rw [upd_ne e] at h ⊢
      exact E.ex b o h
  · obtain ⟨a, vs, h1, h2, h3, h4, h5⟩ := T.own i xs hp
    obtain ⟨a', vs', k1, k2, k3, k4, _⟩ := E.own i xs hp
    rw [h1] at k1
    cases k1
    have ne : a ≠ D := fun e => by rw [e, n] at k2; cases k2
    exact ⟨a, vs, h1, h2, h3, (upd_ne ne).trans h4, h5⟩
theorem EnvR.grows {ws zs : List V} (E : EnvR K ⟨B0, upd H0 D (.lst ws), gs⟩ B H σ ρ) (hD : H D = some (.lst ws)) (hb : B D) : EnvR K ⟨B0, upd H0 D (.lst zs), gs⟩ B (upd H D (.lst zs)) σ ρ := by
  refine ⟨E.len, E.up, fun b z => ?_, fun b z => ?_, fun b o h => ?_, fun g hg => VRs.mut hb hD (E.gh g hg), fun i p hp => ?_, fun i xs hp => ?_, E.dis⟩
  · by_cases e : b = D
    · exact ⟨_, by rw [e]; exact upd_same⟩
    · obtain ⟨o, ho⟩ := E.trk0 b z
      exact ⟨o, (upd_ne e).trans ((upd_ne e).symm.trans ho)⟩
  · by_cases e : b = D
    · exact ⟨_, by rw [e]; exact upd_same⟩
    · obtain ⟨o, ho⟩ := E.trk b z
      exact ⟨o, (upd_ne e).trans ho⟩
  · have h : upd H0 D (.lst zs) b = some o := h
    by_cases e : b = D
    · rw [e, upd_same] at h ⊢
      exact h
    · rw [upd_ne e] at h ⊢
      exact E.ex b o ((upd_ne e).trans h)
  · obtain ⟨v, a, b⟩ := E.val i p hp
    exact ⟨v, a, VRs.mut hb hD b⟩
  · obtain ⟨a, vs, h1, h2, h3, h4, h5⟩ := E.own i xs hp
    have ne : a ≠ D := fun e => by
      have h4' : upd H0 D (.lst ws) a = none := h4
      rw [e, upd_same] at h4'
      cases h4'
    exact ⟨a, vs, h1, (upd_ne ne).trans h2, h3, (upd_ne ne).trans ((upd_ne ne).symm.trans h4), VRs.mut hb hD h5⟩
end
section
variable {G : Gam} {ρ : List Sl} {elt tg iter tg1 iter1 : Expr} {scope : Scope} {own : List (Str × Nat)} {pos : Pos} {α β : Type}
theorem lc2_read {vs1 : List Nat} {T T1 : Tg} {inj : α → PV} {inj1 : β → PV} {xs : List α} {ys : α → List β} {g : α → β → PV} {X : Cx} (hX : Fits G X) (hc : G.calm = true) (hi : IV G ρ tg iter (xs.map inj)) (hl : (xs.flatMap fun x => (ys x).map (g x)).length ≤ 100000)
    (hb : BV (G.blk scope) tg T) (hT : ∀ n ∈ T.slots, n ∈ own.map (·.2)) (hb1 : BV (G.blk scope) tg1 T1) (hT1 : ∀ n ∈ T1.slots, n ∈ vs1)
    (hit : ∀ x ∈ xs, T.fits (inj x) ∧ IV (G.blk scope) (T.bind (inj x) (wipeR ρ (own.map (·.2)))) tg1 iter1 ((ys x).map inj1))
    (hit1 : ∀ x ∈ xs, ∀ y ∈ ys x, T1.fits (inj1 y) ∧ EV (G.blk scope) (T1.bind (inj1 y) (wipeR (T.bind (inj x) (wipeR ρ (own.map (·.2)))) vs1)) elt (g x y))
    {U : Und} {B : Bd} {σ : L2.St} {H : Hp} {Q : VK} (E : EnvR G.K U B H σ ρ) (q : ∀ l vs H', Ex H H' → H l = none → H' l = some (.lst vs) → VRs G.K H' (fun a => B a ∨ a = l) vs (xs.flatMap fun x => (ys x).map (g x)) → Q (.ref l) H') :
    tLc2 (wI X tg iter) (aG X scope tg) (aT X scope []) (aI X scope tg1 iter1) (aG X scope tg1) (aT X scope []) (aE X scope elt) (own.map (·.2)) vs1 σ H Q := by
  obtain ⟨wi, hpi, hwi⟩ := hi X hX
  refine ⟨wi, hpi, hwi U B σ H _ E fun J gh H1 e1 hgh hit' => ?_⟩
  intro D nD
  have done_le : ∀ i, i ≤ xs.length → ((xs.take i).flatMap fun x => (ys x).map (g x)).length ≤ (xs.flatMap fun x => (ys x).map (g x)).length := fun i _ => by
    conv => rhs; rw [← List.take_append_drop i xs]
    rw [List.flatMap_append, List.length_append]
    omega
  have E1 : EnvR G.K ⟨U.B0, U.H0, gh :: U.gs⟩ B H1 σ ρ := (E.mono e1).keep hgh
  refine ⟨fun i m H2 => m = xs.length - i ∧ i ≤ xs.length ∧ Ex H1 H2 ∧ ∃ ws, H2 D = some (.lst ws) ∧ VRs G.K H2 (fun a => B a ∨ a = D) ws ((xs.take i).flatMap fun x => (ys x).map (g x)) ∧ EnvR G.K ⟨U.B0, upd U.H0 D (.lst ws), gh :: U.gs⟩ (fun a => B a ∨ a = D) H2 σ ρ,
    ⟨xs.length, rfl, Nat.zero_le _, Ex.new nD, [], upd_same, .nil, E1.open_ nD⟩, ?_⟩
  rintro i m H2 ⟨rfl, hle, e2, ws, hD, rs, E2⟩
  have hI := hit' _ H2 (E2.gh gh List.mem_cons_self) i
  rw [List.length_map] at hI
  by_cases hlt : i < xs.length
  · obtain ⟨hgo, hy⟩ := hI.1 hlt
    have hm := List.getElem_mem hlt
    obtain ⟨hfit, hiv⟩ := hit xs[i] hm
    have tk : (xs.take (i + 1)).flatMap (fun x => (ys x).map (g x)) = ((xs.take i).flatMap fun x => (ys x).map (g x)) ++ (ys xs[i]).map (g xs[i]) := by
      rw [List.take_add_one, List.getElem?_eq_getElem hlt, List.flatMap_append]
      simp
    refine .inr ⟨hgo, fun H3 => Ex H1 H3 ∧ ∃ ws, H3 D = some (.lst ws) ∧ VRs G.K H3 (fun a => B a ∨ a = D) ws ((xs.take (i + 1)).flatMap fun x => (ys x).map (g x)) ∧ EnvR G.K ⟨U.B0, upd U.H0 D (.lst ws), gh :: U.gs⟩ (fun a => B a ∨ a = D) H3 σ ρ, fun H3 ⟨h1, h2⟩ => ⟨xs.length - (i + 1), by omega, rfl, hlt, h1, h2⟩, fun x H' y => ?_⟩
    obtain ⟨rfl, p, hp, r⟩ := hy x H' y
    rw [List.getElem?_map, List.getElem?_eq_getElem hlt] at hp
    cases hp
    intro s H'' C cl fp
    obtain ⟨gg, hpg, hgq⟩ := hb _ (hX.blk hc s H'' scope C cl fp)
    refine ⟨gg, hpg, hgq _ _ _ H' _ x _ _ (E2.wipe _) r hfit fun σ3 E3 hw => ⟨?_, ?_⟩⟩
    · rw [hw _ hT]
      apply List.ext_getElem?
      intro k
      by_cases hk : k ∈ own.map (·.2)
      · rw [wipe_at (n := 0) hk, wipe_at (n := 0) hk, wipe_length]
      · rw [wipe_out hk]
    · intro s H'' C cl fp
      refine tvs_nil (ρ := T.bind (inj xs[i]) (wipeR ρ (own.map (·.2)))) (G := G.blk scope) _ (hX.blk hc s H'' scope C cl fp) _ _ _ _ _ E3 fun H4 e4 => ?_
      rw [if_pos rfl]
      intro s H'' C cl fp
      obtain ⟨wi1, hpi1, hwi1⟩ := hiv _ (hX.blk hc s H'' scope C cl fp)
      refine ⟨wi1, hpi1, hwi1 _ _ σ3 H4 _ (E3.mono e4) fun J1 gh1 H5 e5 hgh1 hit1' => ?_⟩
      have E5 := (E3.mono (e4.trans e5)).keep hgh1
      have eI : Ex H' H5 := e4.trans e5
      refine ⟨fun j k H6 => k = (ys xs[i]).length - j ∧ j ≤ (ys xs[i]).length ∧ Ex H1 H6 ∧ ∃ us, H6 D = some (.lst us) ∧ VRs G.K H6 (fun a => B a ∨ a = D) us (((xs.take i).flatMap fun x => (ys x).map (g x)) ++ ((ys xs[i]).take j).map (g xs[i])) ∧
          EnvR G.K ⟨U.B0, upd U.H0 D (.lst us), gh1 :: gh :: U.gs⟩ (fun a => B a ∨ a = D) H6 σ3 (T.bind (inj xs[i]) (wipeR ρ (List.map Prod.snd own))) ∧ EnvR G.K ⟨U.B0, upd U.H0 D (.lst us), gh :: U.gs⟩ (fun a => B a ∨ a = D) H6 σ ρ,
        ⟨(ys xs[i]).length, rfl, Nat.zero_le _, e2.trans eI, ws, eI _ _ hD, by simpa using rs.ext eI, E5, E2.mono eI⟩, ?_⟩
      rintro j k H6 ⟨rfl, hle6, e6, us, hD6, rs6, E6, E6o⟩
      have hI1 := hit1' _ H6 (E6.gh gh1 List.mem_cons_self) j
      rw [List.length_map] at hI1
      by_cases hlt1 : j < (ys xs[i]).length
      · obtain ⟨hgo1, hy1⟩ := hI1.1 hlt1
        have hm1 := List.getElem_mem hlt1
        obtain ⟨hfit1, hev⟩ := hit1 xs[i] hm _ hm1
        have tk1 : ((ys xs[i]).take (j + 1)).map (g xs[i]) = ((ys xs[i]).take j).map (g xs[i]) ++ [g xs[i] (ys xs[i])[j]] := by
          rw [List.take_add_one, List.getElem?_eq_getElem hlt1, List.map_append]
          rfl
        refine .inr ⟨hgo1, fun H7 => Ex H1 H7 ∧ ∃ us, H7 D = some (.lst us) ∧ VRs G.K H7 (fun a => B a ∨ a = D) us (((xs.take i).flatMap fun x => (ys x).map (g x)) ++ ((ys xs[i]).take (j + 1)).map (g xs[i])) ∧
          EnvR G.K ⟨U.B0, upd U.H0 D (.lst us), gh1 :: gh :: U.gs⟩ (fun a => B a ∨ a = D) H7 σ3 (T.bind (inj xs[i]) (wipeR ρ (List.map Prod.snd own))) ∧ EnvR G.K ⟨U.B0, upd U.H0 D (.lst us), gh :: U.gs⟩ (fun a => B a ∨ a = D) H7 σ ρ, fun H7 ⟨h1, h2⟩ => ⟨(ys xs[i]).length - (j + 1), by omega, rfl, hlt1, h1, h2⟩, fun x1 H7 y1 => ?_⟩
        obtain ⟨rfl, p1, hp1, r1⟩ := hy1 x1 H7 y1
        rw [List.getElem?_map, List.getElem?_eq_getElem hlt1] at hp1
        cases hp1
        intro s H'' C cl fp
        obtain ⟨gg1, hpg1, hgq1⟩ := hb1 _ (hX.blk hc s H'' scope C cl fp)
        refine ⟨gg1, hpg1, hgq1 _ _ _ H7 _ x1 _ _ (E6.wipe _) r1 hfit1 fun σ4 E7 hw1 => ⟨?_, ?_⟩⟩
        · rw [hw1 _ hT1]
          apply List.ext_getElem?
          intro k
          by_cases hk : k ∈ vs1
          · rw [wipe_at (n := 0) hk, wipe_at (n := 0) hk, wipe_length]
          · rw [wipe_out hk]
        · intro s H'' C cl fp
          refine tvs_nil (ρ := T1.bind (inj1 (ys xs[i])[j]) (wipeR (T.bind (inj xs[i]) (wipeR ρ (own.map (·.2)))) vs1)) (G := G.blk scope) _ (hX.blk hc s H'' scope C cl fp) _ _ _ _ _ E7 fun H8 e8 => ?_
          rw [if_pos rfl]
          intro s H'' C cl fp
          refine hev _ (hX.blk hc s H'' scope C cl fp) _ _ _ _ _ (E7.mono e8) fun z H9 e9 r9 => ?_
          have eJ : Ex H7 H9 := e8.trans e9
          have hD9 : H9 D = some (.lst us) := eJ _ _ hD6
          refine ⟨us, hD9, ?_, ?_, us ++ [z], upd_same, ?_, ?_, ?_⟩
          · refine Evl.sz_lt ?_
            have h1 := rs6.length
            rw [List.length_append, List.length_map, List.length_take] at h1
            have h2 := done_le (i + 1) hlt
            rw [tk, List.length_append, List.length_map] at h2
            omega
          · exact (e6.trans eJ).mut nD
          · rw [tk1, ← List.append_assoc]
            exact VRs.mut (.inr rfl) hD9 ((rs6.ext eJ).snoc r9)
          · exact (E6.mono eJ).grows hD9 (.inr rfl)
          · exact (E6o.mono eJ).grows hD9 (.inr rfl)
      · refine .inl ⟨hI1.2 (Nat.le_of_not_lt hlt1), e6, us, hD6, ?_, E6o⟩
        rw [List.take_of_length_le (Nat.le_of_not_lt hlt1)] at rs6
        rw [tk]
        exact rs6
  · refine .inl ⟨hI.2 (Nat.le_of_not_lt hlt), ?_⟩
    have e3 : xs.take i = xs := List.take_of_length_le (Nat.le_of_not_lt hlt)
    rw [e3] at rs
    exact q D ws H2 (e1.trans e2) (Evl.fresh_back e1 nD) hD rs
theorem nv_lc2 (own : List (Str × Nat)) (vs1 : List Nat) (T T1 : Tg) (inj : α → PV) (inj1 : β → PV) (xs : List α) (ys : α → List β) (g : α → β → PV) (hc : G.calm = true) (hi : IV G ρ tg iter (xs.map inj)) (hl : (xs.flatMap fun x => (ys x).map (g x)).length ≤ 100000) (ok : BlkOk G.N G.sc scope own)
    (hv : ∀ i ∈ vs1, i ∈ own.map (·.2)) (hb : BV (G.blk scope) tg T) (hT : ∀ n ∈ T.slots, n ∈ own.map (·.2)) (hb1 : BV (G.blk scope) tg1 T1) (hT1 : ∀ n ∈ T1.slots, n ∈ vs1)
    (hit : ∀ x ∈ xs, T.fits (inj x) ∧ IV (G.blk scope) (T.bind (inj x) (wipeR ρ (own.map (·.2)))) tg1 iter1 ((ys x).map inj1))
    (hit1 : ∀ x ∈ xs, ∀ y ∈ ys x, T1.fits (inj1 y) ∧ EV (G.blk scope) (T1.bind (inj1 y) (wipeR (T.bind (inj x) (wipeR ρ (own.map (·.2)))) vs1)) elt (g x y))
    (hs : ∀ env x, foldedSetIterable iter env x = pure x := by intro _ _; rfl) (hs1 : ∀ env x, foldedSetIterable iter1 env x = pure x := by intro _ _; rfl) :
    NV G ρ (.ListComp elt [⟨tg, iter, [], 0⟩, ⟨tg1, iter1, [], 0⟩] scope pos) (xs.flatMap fun x => (ys x).map (g x)) := fun X hX U B σ H Q E q =>
  of_pe (pe_lc2 (own := own) (vs1 := vs1) (by rw [hX.calm]; exact hc) (by rw [hX.N]; exact hX.nd) pi_w (by rw [hX.N, hX.sc]; exact ok) hv (g := aG X scope tg) (tt := aT X scope []) (wi1 := aI X scope tg1 iter1) (g1 := aG X scope tg1) (tt1 := aT X scope []) (te := aE X scope elt)
    (fun s H C cl fp => ⟨fun pins s' σ H' v u Q I r h => pg_w.run pins s' σ H' v u Q I r (h s H C cl fp)⟩) (fun s H C cl fp => ⟨fun pins s' σ H' Q I h => pts_w.run pins s' σ H' Q I (h s H C cl fp)⟩)
    (fun s H C cl fp => ⟨fun pins s' σ H' R I h => pi_w.run pins s' σ H' R I (h s H C cl fp)⟩) (fun s H C cl fp => ⟨fun pins s' σ H' v u Q I r h => pg_w.run pins s' σ H' v u Q I r (h s H C cl fp)⟩)
    (fun s H C cl fp => ⟨fun pins s' σ H' Q I h => pts_w.run pins s' σ H' Q I (h s H C cl fp)⟩) (fun s H C cl fp => ⟨fun pins s' σ H' Q I h => pe_w.run pins s' σ H' Q I (h s H C cl fp)⟩) (hs X.env) hs1)
    (lc2_read hX hc hi hl hb hT hb1 hT1 hit hit1 E q)
end
end VL

namespace VL
open PySem PySem.Spec PyProof.Rows L2
open Evl (Ex)
open L2H (RoomH HotC FnH)
/-- the making of an error of one's own, where nothing is handled: its context is None -/
theorem pmkN {X : Cx} {CT : CXT} {nm : Str} {e : Expr} {es : List Expr} {ta : TA} {p pos : Pos} {C fI : Addr} {k : Nat} {fd : FuncData}
    {ps : List Str} {sp : Sp} (T : OexC X.K C)
    (iC : PySem.W.findIn X.K (.ref C) "__init__" = some (some (.ref fI)))
    (tI : PySem.W.typeIn X.K (.ref fI) = some (.type "function"))
    (F : FnOk X.prog X.w X.K X.mg X.base CT k fI fd ps sp) (hr : Room (k + 1) X.A) (hb : Binds X.K fd ps [])
    (hx : Passes CT X (fun _ _ _ => False)) (hg : Gl X nm) (hm : X.mg nm = some (.ref C)) (ha : PA X (e :: es) ta)
    (hdb : (nm == ("__debug__" : Str)) = false)
    (he : starEach (e :: es) X.env = (false, eval e X.env) :: starEach es X.env)
    (hpl : (backTo pos (starEach es X.env)).any (·.1) = false) : L2N.PMk X (.Call (.Name nm p) (e :: es) [] pos) (tMkO C sp [] ta) := by
  intro pins s0 σ H0 Q I0 h
  obtain ⟨n1, q1, N1, b1, mro, s1, u1, a1, c1, d1, k0, k1, k2, k3, k5, hC, hM⟩ := T.cls
  refine wpAny_Call_Name_kw (ld_glob I0 hg hm ?_ hdb)
  refine PySem.W.callWith_K (h₀ := X.base) I0.ok.mod.kin T.kC (thn (ha.run pos pins s0 σ H0 _ I0 h) ?_) he hpl
  rintro us ⟨hp, gens, drw, tks, os⟩ ⟨vs, H1, I1, r1, hlen, h1⟩
  refine ⟨I1.kIn, ?_⟩
  -- the new error stands behind the tuple of its arguments
  generalize hE : hp.objs.size + 1 = err
  have fresh : hp.objs.size ≤ err := by omega
  have free1 : H1 err = none := I1.hok.fresh fresh
  have prom := h1 err free1
  rw [List.append_nil] at prom
  have keepB : ∀ b o, hp.get? b = some o → ((hp.push (PySem.W.kdv_tup us)).push (PySem.HandSPX.excO C hp.objs.size)).get? b = some o :=
    fun _ _ q => Heap.get?_push_of_some _ (Heap.get?_push_of_some _ q)
  have there : ((hp.push (PySem.W.kdv_tup us)).push (PySem.HandSPX.excO C hp.objs.size)).get? err = some (PySem.HandSPX.excO C hp.objs.size) := by
    rw [← hE]
    heap_get
  have I2 : Inv X pins σ (upd H1 err (exo err C none))
      ⟨(hp.push (PySem.W.kdv_tup us)).push (PySem.HandSPX.excO C hp.objs.size), gens, drw, tks, os⟩ :=
    I1.laid (t' := tks) (a := err) (o := exo err C none) keepB fresh (exo_ok there)
  have r2 : Vals (V.ref err :: vs) (Value.ref err :: us) := .cons rfl r1
  have lenP : (Value.ref err :: us).length = ps.length := r2.length.symm.trans (F.len _ _ _ _ prom)
  have lenU : us.length ≤ sizeLine := by
    have := Paired.length r1
    rw [sizeLine_eq]
    omega
  have bnd := hb _ (Value.ref err :: us) I2.kIn (by rw [List.append_nil]; exact lenP)
  rw [List.append_nil] at bnd
  have run := F.run _ X.stack _ _ ⟨Value.ref err :: us, []⟩ (Value.ref err :: us) _ _ (fun _ _ _ => False) (hr.make C us []) (I2.env0.make C us []) bnd r2 prom
  rw [← hE] at run
  refine wpAny_call (PySem.HandSPX.call_own PySem.F.excBase_ValueError (fun Y => PySem.HandSPX.refsVE_contains Y mro hM) (I1.kIn _ _ hC)
    (PySem.W.looks_findIn I1.kIn iC) (fun self => PySem.W.bind_fn I1.kIn self tI) lenU (codeAny_mono run ?_))
  intro r s' hq
  cases r with
  | error z =>
    rw [← hE] at I2
    exact hx pins σ _ _ z s' I2 hq
  | ok fl =>
    cases fl with
    | next => exact False.elim hq
    | brk => exact False.elim hq
    | cont => exact False.elim hq
    | ret u =>
      obtain ⟨v, H2, ho, bare, un, ok2, rv, ev, d, fs, ea, ed, hd1, q⟩ := hq
      subst ev
      obtain ⟨h2, g2, d2, t2, o2⟩ := s'
      rw [hE] at ea un q
      obtain ⟨t0, gr, J, kG, ge, at0, nn⟩ := mk_end0 (d2 := d2) (t2 := t2) I1 fresh keepB un ok2 ho bare ea ed hd1
      refine ⟨rv, err, _, _, ⟨gr, g2, d2, t2, o2⟩, _, .ref C, some d, by rw [← hE], J, kG, ge, at0, ⟨rfl, rfl, fun ws hw => ?_⟩, rfl, rfl, nn, rfl, bare, raises_own T.exC T.tyC, q⟩
      cases hw
      rfl

/-- what a two-field __init__ of an error does -/
def spInit (C : Addr) (f1 f2 : Str) : Sp := fun vs H Q _ => ∃ (a : Addr) (x y : V), vs = [.ref a, x, y] ∧ H a = some (exo a C none) ∧
  ∀ d H2, (∀ b o, b ≠ a → H b = some o → H2 b = some o) → H d = none → H2 a = some (exo a C (some d)) → H2 d = some (exd d [(f2, y), (f1, x)]) → Q .non H2
/-- an error class of two fields -/
structure ErrV (P : Program) (w : World) (K : PySem.W.Frag) (mg : Str → Option Value) (base : Heap) (k : Nat) (nm : Str) (C : Addr) (f1 f2 : Str) : Prop where
  mgC : mg nm = some (.ref C)
  T : OexC K C
  fn : ∃ fI fd ps, PySem.W.findIn K (.ref C) "__init__" = some (some (.ref fI)) ∧ PySem.W.typeIn K (.ref fI) = some (.type "function") ∧ FnOk P w K mg base CX0 k fI fd ps (spInit C f1 f2) ∧ Binds K fd ps []
abbrev Gam.Err (G : Gam) (k : Nat) (nm : Str) (C : Addr) (f1 f2 : Str) : Prop := ErrV G.P G.w G.K G.mg G.base k nm C f1 f2
theorem pass00 {X : Cx} : Passes CX0 X (fun _ _ _ => False) := fun _ _ _ _ _ _ _ h => h.elim
section
variable {G : Gam} {ρ : List Sl} {e1 e2 : Expr} {pos p1 p2 : Pos} {p q : PV} {k : Nat} {nm f1 f2 : Str} {C : Addr}
theorem sv_raise (F : G.Err k nm C f1 f2) (hc : G.calm = true) (hk : k + 1 ≤ G.k) (ha : EV G ρ e1 p) (hb : EV G ρ e2 q) (hg : G.sc.names.lookup nm = some .globalImplicit := by first | rfl | decide +kernel) (hd : (nm == ("__debug__" : Str)) = false := by decide)
    (hs : ∀ env, starEach [e1, e2] env = [(false, eval e1 env), (false, eval e2 env)] := by intro _; rfl) (hs2 : ∀ env, starEach [e2] env = [(false, eval e2 env)] := by intro _; rfl) : SV G ρ (.Raise (some (.Call (.Name nm p1) [e1, e2] [] p2)) none pos) (.xc ρ C [f2, f1] [q, p]) := by
  obtain ⟨mgC, T, fI, fd, ps, iC, tI, FI, hbI⟩ := F
  intro X W hX hA U B σ H D R hD
  have st : starEach [e1, e2] X.env = (false, eval e1 X.env) :: starEach [e2] X.env := by rw [hs, hs2]
  have F' : FnOk X.prog X.w X.K X.mg X.base CX0 k fI fd ps (spInit C f1 f2) := by rw [hX.prog, hX.w, hX.K, hX.mg, hX.base]; exact FI
  refine of_ps (L2N.ps_raise (by rw [hX.calm]; exact hc) hA.tk (pmkN (by rw [hX.K]; exact T) (by rw [hX.K]; exact iC) (by rw [hX.K]; exact tI) F' ((hX.room hc).mono hk) (by rw [hX.K]; exact hbI) pass00 (hX.gl hg) (by rw [hX.mg]; exact mgC)
    (pa_cons pe_w (pa_cons pe_w pa_nil (hs2 X.env)) st) hd st (by rw [hs2]; rfl))) ?_
  refine ha X hX _ _ _ _ _ R fun v H1 x1 r1 => hb X hX _ _ _ _ _ (R.mono x1) fun u H2 x2 r2 => ⟨by show 2 ≤ 1000; omega, fun a na => ?_⟩
  refine ⟨a, v, u, rfl, upd_same, fun d H3 keep nd ea ed => ⟨rfl, d, _, ea, ed, ?_, ?_⟩⟩
  · have ne : d ≠ a := fun z => by rw [z, upd_same] at nd; cases nd
    rw [upd_ne ne] at nd
    exact nd
  · have ne : d ≠ a := fun z => by rw [z, upd_same] at nd; cases nd
    rw [upd_ne ne] at nd
    have ex : Ex H2 (upd (del H3 a) d (.xd [(f2, u), (f1, v)])) := fun b o hb => by
      have hba : b ≠ a := ne_of_none hb na
      rw [upd_ne (ne_of_none hb nd), del_ne hba]
      exact keep b o hba (by rw [upd_ne hba]; exact hb)
    exact hD d [u, v] B σ _ (R.mono ((x1.trans x2).trans ex)) upd_same rfl (VRs.cons (VR.ext ex r2) (VRs.cons (VR.ext ex (VR.ext x2 r1)) .nil))
end
/-! ### try .. except X as e -/
def Gam.suite (G : Gam) (a C d : Addr) : Gam := { G with calm := false, ex := fun X => ∃ (X0 : Cx) (oe : Obj) (pn : List (Addr × Obj)), X = X0.suite a ((a, oe) :: pn) ∧ L2N.Zn (.ref C) (some d) oe ∧ ∃ vs, oe.data = .fields vs }
def wTry (X : Cx) (body : List Stmt) (W : WX) : TS := fun D σ H => ∀ (pn : List (Addr × Obj)) (xe : Value → Shared → Prop), L2N.Takes (X.tr pn xe) W → PassesOwn (model X.prog X.w) X.A X.env xe → wB (X.tr pn xe) body D σ H
def wSuite (X : Cx) (sts : List Stmt) (a : Addr) (cls : Value) (d : Option Addr) : TS := fun D σ H => ∀ (oe : Obj) (pn : List (Addr × Obj)), L2N.Zn cls d oe → (∃ vs, oe.data = .fields vs) → wB (X.suite a ((a, oe) :: pn)) sts D σ H
section
variable {G : Gam} {ρ ρ1 : List Sl} {pos np pos' : Pos} {body suite : List Stmt} {b0 : Stmt} {x z : Str} {i : Nat} {out : Out} {C D0 : Addr} {ns : List Str} {xs : List PV} {r : PV}
theorem Fits.tr {X : Cx} (hX : Fits G X) (hc : G.calm = true) (hex : ∀ Y, G.ex Y) (pn : List (Addr × Obj)) (xe : Value → Shared → Prop) : Fits G (X.tr pn xe) :=
  ⟨hX.prog, hX.w, hX.K, hX.mg, hX.base, hX.N, hX.sc, hX.fn, hX.calm, hX.nd, hX.roomH, hX.room, (fun z => by rw [hc] at z; cases z), hex _⟩
theorem sv_try {o1 : Out} (hc : G.calm = true) (hex : ∀ Y, G.ex Y) (hi : G.N[i]? = some z) (hz : G.sc.names.lookup z = some .local) (hx : G.mg x = some (.ref D0)) (hg : G.sc.names.lookup x = some .globalImplicit) (hxd : (x == ("__debug__" : Str)) = false)
    (hb : SS G ρ body o1)
    (h : ∀ (W : WX) (X : Cx) (U : Und) (D : Ends), Fits G X → Air X W → OutOk G.K U D W out →
      OutOk G.K U D (wAs G.K (.ref D0) i (fun a cls d => wSuite X (b0 :: suite) a cls d) W D) o1) : SV G ρ (.Try body [.ExceptHandler (some (.Name x np)) (some z) (b0 :: suite) pos'] [] [] pos) out := by
  intro X W hX hA U B σ H D R hD
  refine of_ps (L2N.ps_try_as (i := i) (c := .ref D0) (tb := wTry X body) (ts := fun a cls d => wSuite X (b0 :: suite) a cls d) hA.stk hA.fr (by rw [hX.N]; exact hX.nd) (by rw [hX.N]; exact hi) (by show X.env.scope.names.lookup z = _; rw [hX.sc]; exact hz)
    ⟨hX.gl hg, hxd, .inl (by rw [hX.mg]; exact hx)⟩ hA.tk (fun W pn xe tk po => ⟨fun pins s σ H D I q => pss_w.run pins s σ H D I (q pn xe tk po)⟩) (fun a oe cls d pn hzn hvs => ⟨fun pins s σ H D I q => pss_w.run pins s σ H D I (q oe pn hzn hvs)⟩)) ?_
  intro pn xe tk po
  have key := h W X U D hX hA hD
  rw [← hX.K] at key
  have key' : OutOk G.K U D (wAs X.K (.ref D0) i (fun a cls d => wSuite X (b0 :: suite) a cls d) W D) o1 := by
    rw [hX.K] at key ⊢
    exact key
  exact hb _ _ (hX.tr hc hex pn xe) ⟨tk, po, hA.stk, hA.fr⟩ _ _ _ _ _ R key'
/-- nothing is raised -/
theorem sv_try_rt (hc : G.calm = true) (hex : ∀ Y, G.ex Y) (hi : G.N[i]? = some z) (hz : G.sc.names.lookup z = some .local) (hx : G.mg x = some (.ref D0)) (hg : G.sc.names.lookup x = some .globalImplicit) (hxd : (x == ("__debug__" : Str)) = false) (hb : SS G ρ body (.rt r)) :
    SV G ρ (.Try body [.ExceptHandler (some (.Name x np)) (some z) (b0 :: suite) pos'] [] [] pos) (.rt r) := sv_try hc hex hi hz hx hg hxd hb fun W X U D hX _ hD => hD
theorem sv_try_nx (hc : G.calm = true) (hex : ∀ Y, G.ex Y) (hi : G.N[i]? = some z) (hz : G.sc.names.lookup z = some .local) (hx : G.mg x = some (.ref D0)) (hg : G.sc.names.lookup x = some .globalImplicit) (hxd : (x == ("__debug__" : Str)) = false) (hb : SS G ρ body (.nx ρ1)) :
    SV G ρ (.Try body [.ExceptHandler (some (.Name x np)) (some z) (b0 :: suite) pos'] [] [] pos) (.nx ρ1) := sv_try hc hex hi hz hx hg hxd hb fun W X U D hX _ hD => hD
theorem suite_fits {X : Cx} (hX : Fits G X) {a d : Addr} {oe : Obj} {pn : List (Addr × Obj)} (hzn : L2N.Zn (.ref C) (some d) oe) (hvs : ∃ vs, oe.data = .fields vs) : Fits (G.suite a C d) (X.suite a ((a, oe) :: pn)) :=
  ⟨hX.prog, hX.w, hX.K, hX.mg, hX.base, hX.N, hX.sc, hX.fn, rfl, hX.nd, ⟨hX.roomH.dp, hX.roomH.un⟩, (fun z => by cases z), (fun _ => ⟨(a, oe), ⟨rfl, let ⟨vs, hv⟩ := hvs; ⟨vs, hv, hzn.2.2 vs hv⟩⟩, List.mem_cons_self⟩), X, oe, pn, rfl, hzn, hvs⟩
/-- raised and caught, the suite returns -/
theorem sv_try_xc (hc : G.calm = true) (hex : ∀ Y, G.ex Y) (hi : G.N[i]? = some z) (hz : G.sc.names.lookup z = some .local) (hx : G.mg x = some (.ref D0)) (hg : G.sc.names.lookup x = some .globalImplicit) (hxd : (x == ("__debug__" : Str)) = false)
    (hb : SS G ρ body (.xc ρ1 C ns xs)) (hm : PySem.W.exmOne G.K (.ref C) (.ref D0) = some true) (hsu : ∀ a d, SS (G.suite a C d) (ρ1.set i (.val (.exc a C d ns xs))) (b0 :: suite) (.rt r)) :
    SV G ρ (.Try body [.ExceptHandler (some (.Name x np)) (some z) (b0 :: suite) pos'] [] [] pos) (.rt r) := sv_try hc hex hi hz hx hg hxd hb fun W X U D hX hA hD => by
  intro d ws B σ H R h1 h2 h3
  refine ⟨true, hm, fun _ a na oe pn hzn hvs => ?_, fun z => by cases z⟩
  refine hsu a d _ (fun _ _ _ _ => False) (suite_fits hX hzn hvs) ⟨fun u s' q => ?_, PassesOwn.never, hA.stk, hA.fr⟩ U B _ H _ (R.set (v := .ref a) (.exc h1 h2 h3 .nil)) hD
  obtain ⟨_, _, _, _, _, _, _, _, _, _, _, _, _, _, _, _, zz⟩ := q
  exact zz.elim
end

/-! ### within the suite: the error's fields, its class -/
section
variable {G : Gam} {ρ : List Sl} {pos pos1 p1 p2 : Pos} {a C d : Addr} {ns : List Str} {xs : List PV} {p : PV} {i j : Nat} {z f : Str}
theorem ev_field (T : XfC G.K C) (hno : PySem.W.findIn G.K (.ref C) f = some none) (hN : G.N[i]? = some z) (hv : Vis G.sc z) (h : ρ[i]? = some (.val (.exc a C d ns xs))) (hl : ∀ ws : List V, ws.length = ns.length → (ns.zip ws).lookup f = ws[j]?) (hp : xs[j]? = some p) (hj : j < ns.length)
    (hd : (z == ("__debug__" : Str)) = false := by decide) (hcd : (z == ("__classdict__" : Str)) = false := by decide) (hb : ∀ env, attributeBase (.Name z p1) f env (eval (.Name z p1) env) = eval (.Name z p1) env := by intro _; rfl) :
    EV (G.suite a C d) ρ (.Attribute (.Name z p1) f pos) p := by
  intro X hX U B σ H Q E q
  obtain ⟨X0, oe, pn, rfl, hzn, hvs⟩ := hX.ex
  obtain ⟨v, e1, r⟩ := E.val i _ h
  obtain ⟨rfl, ws, hd1, hl1, rs⟩ := vr_exc r
  obtain ⟨u, hu, ru⟩ := rs.get hp
  refine of_pe (pe_xf (by rw [hX.K]; exact T) (by rw [hX.K]; exact hno) hzn.zc hvs (pe_var (i := i) (by rw [hX.N]; exact hN) (by rw [hX.sc]; exact hv) hd hcd) (hb _)) ?_
  exact ⟨_, e1, rfl, rfl, d, _, u, rfl, hd1, (hl ws hl1).trans hu, q u H (Ex.refl H) ru⟩
end
end VL

namespace VLW
open PySem PySem.Spec PySem.Calls PyProof.Rows PySem.W
section
variable {prog : Program} {w : World} {A : Around} {E : Value → Shared → Prop} {K : Frag} {x D : Addr} {ox : Obj} {od : Option Obj}
/-- __class__ of an error, with or without a dict of its own -/
theorem class_of_error
    (g1 : findIn K (.ref D) "__getattribute__" = some (some (.builtin "BaseException.__getattribute__")))
    (g2 : findIn K (.ref D) "__getattr__" = some none) (g3 : subIn K (.ref D) (.type "BaseException") = some true) (g4 : hasDictIn K D = true)
    (g5 : findIn K (.ref D) "__class__" = some (some (.builtin "object.__class__")))
    (g6 : specialIn K (.builtin "object.__class__") "__get__" = some (some (.builtin "getset_descriptor.__get__")))
    (g7 : takesIn K (.builtin "object.__class__") = some true) (g8 : mroIn K D (.type "object") = some true)
    {s : Shared} {Q : Option Value → Shared → Prop} (KI : K.In s.heap) (J : InstAt s.heap x ox D od) (q : Q (some (.ref D)) { s with toks := s.toks + 1 }) :
    wpAny (model prog w) A (getAttr? (.ref x) "__class__") Q E s := by
  have cls : (clsIn K D).isSome = true := by
    obtain ⟨cd, e, _⟩ := any_some g4
    rw [e]
    rfl
  have found : findObj K D od "__class__" = some (.bind (.builtin "getset_descriptor.__get__") (.builtin "object.__class__")) := by
    obtain ⟨cd, e⟩ := Option.isSome_iff_exists.mp cls
    unfold findObj
    rw [e, Option.bind_some, g5, Option.bind_some]
    simp [g6, g7]
  obtain ⟨hp, gs, dr, tk, os⟩ := s
  have a0 := J.type (M := model prog w)
  have a1 := looks_findIn (M := model prog w) KI g1
  have a2 := looks_findIn (M := model prog w) KI g2
  have a3 := looks_find (M := model prog w) KI J found
  have base : Looks (model prog w) hp (isInstance (.ref x) (.type "BaseException")) true := a0.andThen (looks_subIn KI g3)
  have n2 : (Value.builtin "BaseException.__getattribute__" == Value.builtin "object.__getattribute__") = false := by decide +kernel
  unfold getAttr? getAttrBy? getAttrBy
  refine wpAny_bind (wpAny_mkText (wpAny_bind (wpAny_attempt (wpAny_holding (wpAny_bind (a0.at (wpAny_bind (a1.at ?_))))))))
  show wpAny _ _ (if (onTheHeap (Value.ref D) && Value.builtin "BaseException.__getattribute__" == Value.builtin "object.__getattribute__") = true then _ else _) _ _ _
  rw [show (onTheHeap (Value.ref D) && Value.builtin "BaseException.__getattribute__" == Value.builtin "object.__getattribute__") = false from by rw [n2]; rfl, if_neg Bool.false_ne_true]
  unfold getAttrByItsOwn hookBefore
  refine wpAny_bind ?_
  rw [if_pos (show onTheHeap (Value.ref D) = true from rfl)]
  refine a2.at (wpAny_bind (wpAny_attempt (wpAny_holding ?_)))
  unfold callGetattribute
  rw [show (false && onTheHeap (Value.builtin "BaseException.__getattribute__")) = false from rfl, if_neg Bool.false_ne_true]
  unfold boundAndCalled
  rw [PySem.F.excAttr_ValueError.ga.bind (.ref x)]
  refine wpAny_bind (wpAny_pure ?_)
  show wpAny _ _ (call (.builtin "BaseException.__getattribute__") [.ref x, .str "__class__" tk]) _ _ _
  refine wpAny_call (codeAny_call_builtin PySem.F.excAttr_ValueError.ga.plain PySem.F.entry_bexc_ga
    (@check_slot (model prog w) _ _ ⟨hp, gs, dr, tk + 1, os⟩ "BaseException.__getattribute__" "BaseException" "__getattribute__" (.ref x)
      [.str "__class__" tk] [] _ (by decide +kernel) (by decide +kernel) base (PySem.F.args_bexc_ga (.ref x) (.str "__class__" tk)) ?_))
  unfold Builtin.«object.__getattribute__»
  refine wpAny_bind (wpAny_of_eq (a := ((Value.ref x : Value), [Value.str "__class__" tk])) (by first | rfl | (simp only [slotArgs]; rfl)) ?_)
  refine wpAny_bind (wpAny_pure (wpAny_bind (a0.at (wpAny_bind (a3.at ?_)))))
  show wpAny _ _ (holding [Value.builtin "object.__class__"] (call (.builtin "getset_descriptor.__get__") [.builtin "object.__class__", .ref x, .ref D]) >>= ret) _ _ _
  refine wpAny_bind (wpAny_holding (wpAny_call (class_get (s := ⟨hp, gs, dr, tk + 1, os⟩) (ox := ox) (od := od) KI J g8 (wpAny_pure ?_))))
  show wpAny _ _ (handedOut (.ref D)) _ _ _
  rw [handedOut_of (v := .ref D) rfl]
  first
    | exact wpAny_pure (wpAny_pure q)
    | exact wpAny_pure q
    | exact wpAny_pure (wpAny_bind (wpAny_pure (wpAny_pure q)))
/-- what isinstance needs of such an error -/
theorem kit_error (od : Option Obj)
    (g1 : findIn K (.ref D) "__getattribute__" = some (some (.builtin "BaseException.__getattribute__")))
    (g2 : findIn K (.ref D) "__getattr__" = some none) (g3 : subIn K (.ref D) (.type "BaseException") = some true) (g4 : hasDictIn K D = true)
    (g5 : findIn K (.ref D) "__class__" = some (some (.builtin "object.__class__")))
    (g6 : specialIn K (.builtin "object.__class__") "__get__" = some (some (.builtin "getset_descriptor.__get__")))
    (g7 : takesIn K (.builtin "object.__class__") = some true) (g8 : mroIn K D (.type "object") = some true) :
    KitX K (.ref x) (.ref D) (fun h => InstAt h x ox D od) := by
  obtain ⟨cd, e, _⟩ := any_some g4
  unfold clsIn at e
  refine ⟨fun _ _ _ J => J.type, fun _ _ KI _ => ?_, fun h tp dd its n sl KI at1 => ?_, fun KI J q => class_of_error g1 g2 g3 g4 g5 g6 g7 g8 KI J q⟩
  · split at e
    · rename_i c' d' cd' sl' ho
      intro A' Q' E' s' k q
      unfold isType loadHead
      exact wpAny_bind (wpAny_loadPart (k _ _ (KI _ _ ho)) (wpAny_pure q))
    · cases e
  · refine Bool.eq_false_iff.mpr fun z => ?_
    obtain rfl : D = tp := Value.ref.inj (beq_iff_eq.mp z)
    split at e
    · rename_i c' d' cd' sl' ho
      cases (KI _ _ ho).symm.trans at1
    · cases e
end
end VLW
namespace VL
open PySem PySem.Spec PyProof.Rows L2
open Evl (Ex)
def rIsX (K : PySem.W.Frag) (D a d : Addr) : List V → Hp → VK → Prop := fun xs H Q => ∃ (C : Addr) (b : Bool) (fs : List (Str × V)), xs = [.ref a, .ref C] ∧ H d = some (.xd fs) ∧ PySem.W.kitOne K (.ref D) (.ref C) = some b ∧ Q (.bl b) H
theorem call_isX {X : Cx} {a D d : Addr} {oe : Obj} {pn : List (Addr × Obj)} (C : ExcC X.K D) (hz : Zc (.ref D) (some d) oe) (hf : ∃ vs, oe.data = .fields vs) : CallR (X.suite a ((a, oe) :: pn)) (.builtin "isinstance") (rIsX X.K D a d) := by
  intro pins s σ H xs us Q I r h
  obtain ⟨c, b, fs, rfl, hd, e, q⟩ := h
  obtain ⟨u1, u2, rfl, ra, rc⟩ := vals2 r
  obtain rfl : u1 = Value.ref a := ra
  obtain rfl : u2 = Value.ref c := rc
  obtain ⟨at1, _⟩ := I.pin (a, oe) (List.mem_append_left _ List.mem_cons_self)
  obtain ⟨vs, hv⟩ := hf
  have hx : ObjOk X.prog X.w H s.heap d (.xd fs) := I.hok d _ hd
  obtain ⟨mA, hns, _⟩ := hx
  obtain ⟨o2, ho, _⟩ := lookIn_ns hns
  have J : PySem.W.InstAt s.heap a oe D (some o2) := ⟨at1, hz.1, by unfold PySem.W.notCls; rw [hv] <;> rfl, by rw [hz.2]; exact ho⟩
  exact PySem.W.kia_one (VLW.kit_error (some o2) C.hg C.hk C.hs C.hd C.ha C.hn C.ht C.hm) I.kIn J e (fun z => nomatch z) fun tk => ⟨.bl b, H, I.kept (t' := tk) fun _ _ z => z, rfl, q⟩
section
variable {G : Gam} {ρ : List Sl} {pos p1 p2 p3 : Pos} {a C d D0 : Addr} {ns : List Str} {xs : List PV} {i : Nat} {z T : Str} {b : Bool}
theorem ev_isErr (CC : ExcC G.K C) (hk : PySem.W.kitOne G.K (.ref C) (.ref D0) = some b) (hm : G.mg "isinstance" = none) (hT : G.mg T = some (.ref D0)) (hN : G.N[i]? = some z) (hv : Vis G.sc z) (h : ρ[i]? = some (.val (.exc a C d ns xs)))
    (hg : G.sc.names.lookup ("isinstance" : Str) = some .globalImplicit := by first | rfl | decide +kernel) (hgT : G.sc.names.lookup T = some .globalImplicit := by first | rfl | decide +kernel) (hTd : (T == ("__debug__" : Str)) = false := by decide)
    (hd : (z == ("__debug__" : Str)) = false := by decide) (hcd : (z == ("__classdict__" : Str)) = false := by decide) :
    EV (G.suite a C d) ρ (.Call (.Name "isinstance" p1) [.Name z p2, .Name T p3] [] pos) (.bl b) := by
  intro X hX U B σ H Q E q
  obtain ⟨X0, oe, pn, rfl, hzn, hvs⟩ := hX.ex
  obtain ⟨v, e1, r⟩ := E.val i _ h
  obtain ⟨rfl, ws, hd1, hl1, rs⟩ := vr_exc r
  refine of_pe (pe_callB (call_isX (by rw [hX.K]; exact CC) hzn.zc hvs) (hX.gl hg) (hX.nn hm) (by decide +kernel) (pa_cons (pe_var (i := i) (by rw [hX.N]; exact hN) (by rw [hX.sc]; exact hv) hd hcd) (pa_cons (pe_glob (v := .ref D0) (hX.gl hgT) (by rw [hX.mg]; exact hT) rfl hTd) pa_nil))) ?_
  exact ⟨_, e1, D0, b, _, rfl, hd1, by rw [hX.K]; exact hk, q _ H (Ex.refl H) .b⟩
end
end VL

namespace VL
open PySem PySem.Spec PyProof.Rows L2
open Evl (Ex)
open L2H (RoomH HotC FnH)
/-! ### len(set(ints)) -/
def distinct (ns : List Int) : List Int := ns.foldl (fun σ k => if σ.any (· == k) then σ else σ ++ [k]) []
theorem firstMet_distinct (ns : List Int) : PyProof.Rows.firstMet (fun i => ns.getD i 0) ns.length = distinct ns := by
  unfold PyProof.Rows.firstMet distinct
  have e : (List.range ns.length).map (fun i => ns.getD i 0) = ns := by
    apply List.ext_getElem
    · simp
    · intro i h1 h2
      simp [h2]
  rw [e]
  rfl
section
variable {X : Cx}
def tLenSetD (K : PySem.W.Frag) (ta : TE) : TE := fun σ H Q => ta σ H fun x H1 => ∃ (l : Addr) (ns : List Int), x = V.ref l ∧ SqL K H1 l (ns.map V.int) ∧ ns.length < 64 ∧ Q (.int (distinct ns).length) H1
theorem pe_lenSetD {a : Expr} {ta : TE} {p p2 q pos : Pos} (hc : X.calm = true) (g1 : Gl X "len") (m1 : X.mg "len" = none) (g2 : Gl X "set") (m2 : X.mg "set" = none)
    (ha : PE X a ta) (na : starEach [a] X.env = (false, eval a X.env) :: starEach [] X.env) :
    PE X (.Call (.Name "len" p) [.Call (.Name "set" p2) [a] [] q] [] pos) (tLenSetD X.K ta) := ⟨fun pins s σ H Q I h => by
  refine Call_ (ld_blt I g1 m1 PySem.boot_len (PyProof.Rows.callWith_builtin1 (PyProof.Rows.args_cons ?_ rfl) rfl rfl))
  refine Call_ (ld_blt I g2 m2 PyProof.Rows.boot_set (PyProof.Rows.callWith_type1 (PyProof.Rows.args_cons (thn (ha.run pins s σ H _ I h) ?_) na) na rfl))
  rintro v s1 ⟨x, H1, I1, r1, l, ns, rfl, hq, hlt, q1⟩
  refine PyProof.Rows.args_nil ?_
  cases r1
  obtain ⟨its, r, pl, hz⟩ := I1.list hq
  have size : its.toArray.size = ns.length := by rw [List.size_toArray, ← r.length, List.length_map]
  refine call_set_list (I1.ok.hd hc) pl.isList (ns := ns) (by simpa using r.ints) (by unfold scanBound; omega) fun h' tk made kept => ?_
  rw [size, firstMet_distinct] at made
  refine PyProof.Rows.args_nil ?_
  obtain ⟨o, es, ep, t, ho, hex, hd, _, _, _, hf, hn⟩ := made
  have small : (distinct ns).length < 64 := by
    rw [← firstMet_distinct]
    exact Nat.lt_of_le_of_lt (PyProof.Rows.firstMet_length_le _ _) hlt
  have I2 : Inv X pins σ H1 { s1 with heap := h', toks := tk } := I1.kept fun b o e => kept b o (Heap.lt_size e) e
  exact call_len_set ho hex hd hf (by rw [hn] <;> omega) ⟨.int (distinct ns).length, H1, I2.tok _, ⟨_, by rw [hn]⟩, q1⟩⟩
end
section
variable {G : Gam} {ρ : List Sl} {a b e : Expr} {pos p1 p2 p3 : Pos}
theorem ev_lenSet {ns : List Int} (ha : LV G ρ a (ns.map PV.int)) (hlt : ns.length < 64) (hc : G.calm = true) (m1 : G.mg "len" = none) (m2 : G.mg "set" = none) (g1 : G.sc.names.lookup ("len" : Str) = some .globalImplicit := by first | rfl | decide +kernel) (g2 : G.sc.names.lookup ("set" : Str) = some .globalImplicit := by first | rfl | decide +kernel)
    (hs : ∀ env, starEach [a] env = (false, eval a env) :: starEach [] env := by intro _; rfl) : EV G ρ (.Call (.Name "len" p1) [.Call (.Name "set" p2) [a] [] p3] [] pos) (.int (distinct ns).length) := by
  intro X hX U B σ H Q E q
  refine of_pe (pe_lenSetD (by rw [hX.calm]; exact hc) (hX.gl g1) (hX.nn m1) (hX.gl g2) (hX.nn m2) pe_w (hs X.env)) ?_
  refine ha X hX _ _ _ _ _ E fun l vs H1 e1 hl rs => ?_
  have ev := rs.intsV
  subst ev
  exact ⟨l, ns, rfl, by rw [hX.K]; exact hl, hlt, q _ _ e1 .i⟩
end
/-! ### pairs of ints, in and not in -/
def pr (z : Int × Int) : PV := .tup [.int z.1, .int z.2]
def prDat (z : Int × Int) : PyData := .tuple [.int z.1, .int z.2]
theorem prDat_lay (z : Int × Int) : (prDat z).canLay0 = true := by simp [prDat, PyData.canLay0, PyData.canLayAll0]
theorem prDat_depth (z : Int × Int) : (prDat z).depth = 1 := by simp [prDat, PyData.depth, PyData.depthAll]
theorem prDats_lay : ∀ zs : List (Int × Int), PyData.canLayAll0 (zs.map prDat) = true
  | [] => by simp [PyData.canLayAll0]
  | z :: zs => by simp [PyData.canLayAll0, prDat_lay z, prDats_lay zs]
theorem prDats_depth : ∀ zs : List (Int × Int), PyData.depthAll (zs.map prDat) ≤ 1
  | [] => by simp [PyData.depthAll]
  | z :: zs => by
    have h1 := prDats_depth zs
    have h2 := prDat_depth z
    simp only [List.map_cons, PyData.depthAll]
    omega
theorem prDat_shaped (z : Int × Int) : SeqAt.shaped (prDat z) = true := by
  unfold SeqAt.shaped
  rw [prDat_lay, prDat_depth]
  rfl
theorem prDats_shaped (zs : List (Int × Int)) : SeqAt.shaped (.list (zs.map prDat)) = true := by
  have h1 := prDats_depth zs
  unfold SeqAt.shaped
  rw [Bool.and_eq_true]
  refine ⟨by simp only [PyData.canLay0]; exact prDats_lay zs, decide_eq_true ?_⟩
  simp only [PyData.depth]
  omega
theorem prDat_eqv (z w : Int × Int) : PyData.eqv (prDat z) (prDat w) = decide (z = w) := by
  obtain ⟨x, y⟩ := z
  obtain ⟨x', y'⟩ := w
  simp only [prDat, PyData.eqv, PyData.eqvAll]
  by_cases h1 : x = x'
  · by_cases h2 : y = y'
    · subst h1; subst h2; simp
    · simp [h2]
  · simp [h1]
theorem dp_pr {K : PySem.W.Frag} {H : Hp} {B : Bd} {v : V} {z : Int × Int} (h : VR K H B v (pr z)) : Dp K H v (prDat z) := by
  obtain ⟨a, ws, rfl, hT, rs⟩ := vr_tup h
  have e := VRs.intsV (bs := [z.1, z.2]) rs
  subst e
  exact .tup hT (.cons (.int _) (.cons (.int _) .nil))
theorem dps_pr {K : PySem.W.Frag} {H : Hp} {B : Bd} : ∀ {vs : List V} {zs : List (Int × Int)}, VRs K H B vs (zs.map pr) → DpAll K H vs (zs.map prDat)
  | [], [], _ => .nil
  | [], _ :: _, h => nomatch h
  | _ :: _, [], h => nomatch h
  | _ :: _, _ :: _, h => .cons (dp_pr h.head) (dps_pr h.tail)
section
variable {G : Gam} {ρ : List Sl} {a b e : Expr} {pos p1 p2 p3 : Pos} {z : Int × Int} {zs : List (Int × Int)}
theorem any_prDat (z : Int × Int) (zs : List (Int × Int)) : ((zs.map prDat).any fun d => PyData.eqv d (prDat z)) = decide (z ∈ zs) := by
  rw [List.any_map]
  induction zs with
  | nil => simp
  | cons w ws ih =>
    simp only [List.any_cons, Function.comp, prDat_eqv, List.mem_cons] at ih ⊢
    rw [ih]
    by_cases h : w = z
    · subst h; simp
    · have h' : ¬ z = w := fun q => h q.symm
      simp [h, h']
theorem cv_notinP (ha : EV G ρ a (pr z)) (hb : LV G ρ b (zs.map pr)) (hm : behindInMarks .NotIn b = false := by first | rfl | exact nobehind _ (by decide) (by decide)) : CV G ρ (.Compare a [.NotIn] [b] pos) (!decide (z ∈ zs)) := by
  have key : ∀ X, Fits G X → ∀ (U : Und) (B : Bd) (σ : L2.St) (H : Hp) (R : V → Hp → Prop), EnvR G.K U B H σ ρ → (∀ H', Ex H H' → R (.bl (!decide (z ∈ zs))) H') → wE X a σ H fun x H1 => wE X b σ H1 fun y H2 => rNotInD X.K x y H2 R := fun X hX U B σ H R E q =>
    ha X hX _ _ _ _ _ E fun v H1 e1 r1 => hb X hX _ _ _ _ _ (E.mono e1) fun l vs H2 e2 hl rs => by
      rw [hX.K]
      refine ⟨prDat z, zs.map prDat, dp_pr (r1.ext e2), .lst hl (dps_pr rs), prDat_shaped z, prDats_shaped zs, ?_⟩
      rw [any_prDat]
      exact q H2 (e1.trans e2)
  have hu : ∀ X, Fits G X → X.A.units + 65 < cLine := fun X hX => by
    have := hX.roomH.un
    omega
  refine ⟨fun X hX U B σ H Q E q => of_pe (pe_cmpR (op_notInD (hu X hX)) pe_w pe_w hm) (key X hX U B σ H Q E fun H' e => q _ H' e .b), fun X hX U B σ H Q E q => of_pt (pt_cmpR (op_notInD (hu X hX)) pe_w pe_w hm) (key X hX U B σ H _ E fun H' e => ⟨_, rfl, q H' e⟩)⟩
end
/-! ### calls by names of the parameters alone -/
def FnVK (P : Program) (w : World) (K : PySem.W.Frag) (mg : Str → Option Value) (base : Heap) (k : Nat) (x : Str) (ps ks : List Str) (rev : Bool) (R : Rel) : Prop :=
  ∃ f fd, mg x = some (.ref f) ∧ PySem.W.keepIn K (.ref f) = true ∧ FnOk P w K mg base (L2N.CX P w) k f fd ps (spOf K ps.length R) ∧
    ∀ (s : Shared) (ws : List Value), K.In s.heap → ws.length = ps.length → BindsTo s fd ⟨[], ks.zip ws⟩ (ps.zip (if rev then ws.reverse else ws))
abbrev Gam.FnK (G : Gam) (k : Nat) (x : Str) (ps ks : List Str) (rev : Bool) (R : Rel) : Prop := FnVK G.P G.w G.K G.mg G.base k x ps ks rev R
def KVs (G : Gam) (ρ : List Sl) (kws : List Keyword) (ps : List PV) : Prop := ∀ X, Fits G X → ∃ t, PK X kws t ∧ ∀ (U : Und) (B : Bd) (σ : L2.St) (H : Hp) (Q : List V → Hp → Prop), EnvR G.K U B H σ ρ → (∀ vs H', Ex H H' → VRs G.K H' B vs ps → Q vs H') → t σ H Q
section
variable {G : Gam} {ρ : List Sl} {e : Expr} {kws : List Keyword} {pos kpos p1 : Pos} {p : PV} {args : List PV} {nm : Option Str}
theorem kv_nil : KVs G ρ [] [] := fun X hX => ⟨_, pk_nil, fun U B σ H Q E q => q _ _ (Ex.refl H) .nil⟩
theorem kv_cons {ps : List PV} (h : EV G ρ e p) (t : KVs G ρ kws ps) : KVs G ρ (⟨nm, e, kpos⟩ :: kws) (p :: ps) := fun X hX => by
  obtain ⟨t', ht, hq⟩ := t X hX
  exact ⟨_, pk_cons pe_w ht, fun U B σ H Q E q => h X hX _ _ _ _ _ E fun v H1 e1 r1 => hq _ _ _ _ _ (E.mono e1) fun vs H2 e2 r2 => q _ _ (e1.trans e2) (VRs.cons (r1.ext e2) r2)⟩
theorem VRs.rev {K : PySem.W.Frag} {H : Hp} {B : Bd} : ∀ {vs : List V} {ps : List PV}, VRs K H B vs ps → VRs K H B vs.reverse ps.reverse
  | [], [], _ => .nil
  | [], _ :: _, h => nomatch h
  | _ :: _, [], h => nomatch h
  | v :: vs, p :: ps, h => by
    rw [List.reverse_cons, List.reverse_cons]
    exact (VRs.rev h.tail).append h.head
theorem ev_callK {k : Nat} {f : Str} {ps ks : List Str} {rev : Bool} {R : Rel} (F : G.FnK k f ps ks rev R) (hc : G.calm = true) (hk : k ≤ G.k) (ha : KVs G ρ kws args) (hR : R (if rev then args.reverse else args) (.ok p)) (hl : args.length = ps.length) (hkl : kws.length = args.length)
    (hall : ∀ env, (backToKw pos (keywordEach kws env)).all (·.1.isSome) = true := by intro _; rfl) (hks : ∀ env, (backToKw pos (keywordEach kws env)).filterMap (·.1) = ks := by intro _; rfl)
    (hpl : ∀ env, ((backTo pos (starEach [] env)).any (·.1) || (backToKw pos (keywordEach kws env)).any (·.1.isNone)) = false := by intro _; rfl)
    (hg : G.sc.names.lookup f = some .globalImplicit := by first | rfl | decide +kernel) (hd : (f == ("__debug__" : Str)) = false := by decide) : EV G ρ (.Call (.Name f p1) [] kws pos) p := by
  obtain ⟨g, fd, hm, hkp, F, hb⟩ := F
  intro X hX U B σ H Q E q
  have F' : FnOk X.prog X.w X.K X.mg X.base (L2N.CX X.prog X.w) k g fd ps (spOf G.K ps.length R) := by rw [hX.prog, hX.w, hX.K, hX.mg, hX.base]; exact F
  obtain ⟨t, ht, hq⟩ := ha X hX
  unfold wE
  intro pins s I
  refine wpAny_Call_Name_kw (ld_glob I (hX.gl hg) (by rw [hX.mg]; exact hm) ?_ hd)
  refine PySem.W.callWith_KW0 (h₀ := X.base) I.ok.mod.kin (by rw [hX.K]; exact hkp) (hall X.env) ?_ (hpl X.env)
  refine thn (ht.run pos pins s σ H (fun zs H2 => VRs G.K H2 B zs args ∧ Ex H H2) I (hq U B σ H _ E fun vs H1 e1 rs => ⟨rs, e1⟩)) fun ws s2 ⟨zs, H2, I2, rz, rs, e1⟩ => ⟨I2.kIn, ?_⟩
  rw [hks]
  have lz : zs.length = ps.length := rs.length.trans hl
  have lw : ws.length = ps.length := rz.length.symm.trans lz
  have rz2 : Vals (if rev then zs.reverse else zs) (if rev then ws.reverse else ws) := by
    cases rev with
    | false => exact rz
    | true =>
      have rr : ∀ {a : List V} {b : List Value}, Vals a b → Vals a.reverse b.reverse := fun {a b} h => by
        induction h with
        | nil => exact .nil
        | cons r t ih =>
          rw [List.reverse_cons, List.reverse_cons]
          exact Vals.append ih (.cons r .nil)
      exact rr rz
  have rs2 : VRs G.K H2 B (if rev then zs.reverse else zs) (if rev then args.reverse else args) := by
    cases rev with
    | false => exact rs
    | true => exact rs.rev
  have prom : spOf G.K ps.length R (if rev then zs.reverse else zs) H2 Q (fun _ _ _ => False) := ⟨_, .ok p, B, rs2, (E.mono e1).trk, by cases rev <;> simp [hl], hR, fun v H3 e3 r3 => q v H3 (e1.trans e3) r3⟩
  show wpAny _ _ (call (.ref g) [] (ks.zip ws)) _ _ _
  refine wpAny_call (codeAny_mono (F'.run X.A X.stack s2 H2 ⟨[], ks.zip ws⟩ (if rev then ws.reverse else ws) _ Q (fun _ _ _ => False) ((hX.room hc).mono hk) I2.env0 (hb s2 ws (by rw [← hX.K]; exact I2.kIn) lw) rz2 prom) fun r s' hq' => ?_)
  cases r with
  | error z => exact pass0N pins σ H2 s2 z s' I2 hq'
  | ok fl =>
    cases fl with
    | ret u => exact I2.after hq'
    | next => exact False.elim hq'
    | brk => exact False.elim hq'
    | cont => exact False.elim hq'
end
end VL

namespace VL
open PySem PySem.Spec PyProof.Rows L2
open Evl (Ex)
section
variable {G : Gam} {ρ : List Sl} {pos : Pos} {p : PV} {x : Str}
theorem v (n : Nat) (hN : G.N[n]? = some x := by rfl) (hv : Vis G.sc x := by first | exact .inl rfl | exact .inr (.inl rfl) | exact .inr (.inr rfl)) (h : ρ[n]? = some (.val p) := by rfl) (hd : (x == ("__debug__" : Str)) = false := by decide) (hc : (x == ("__classdict__" : Str)) = false := by decide) : EV G ρ (.Name x pos) p := ev_var hN hv h hd hc
theorem lo {xs : List PV} (n : Nat) (hN : G.N[n]? = some x := by rfl) (hv : Vis G.sc x := by first | exact .inl rfl | exact .inr (.inl rfl) | exact .inr (.inr rfl)) (h : ρ[n]? = some (.own xs) := by rfl) (hd : (x == ("__debug__" : Str)) = false := by decide) (hc : (x == ("__classdict__" : Str)) = false := by decide) : LV G ρ (.Name x pos) xs := lv_own hN hv h hd hc
end
section
variable {G : Gam} {ρ : List Sl} {elt tg iter tg1 iter1 : Expr} {scope : Scope} {pos spos py : Pos} {α β : Type} {n : Nat} {z : Str}
theorem sv_lc2 (own : List (Str × Nat)) (vs1 : List Nat) (T T1 : Tg) (inj : α → PV) (inj1 : β → PV) (xs : List α) (ys : α → List β) (g : α → β → PV) (hi' : G.N[n]? = some z) (hz : G.sc.names.lookup z = some .local) (hk : G.sc.kind = .function) (hln : (py.line == pos.line) = true)
    (han : (scope.names.any fun (n, k) => n == z && (k == .local || k == .cell)) = false) (hc : G.calm = true) (hi : IV G ρ tg iter (xs.map inj)) (hl : (xs.flatMap fun x => (ys x).map (g x)).length ≤ 100000) (ok : BlkOk G.N G.sc scope own)
    (hv : ∀ i ∈ vs1, i ∈ own.map (·.2)) (hb : BV (G.blk scope) tg T) (hT : ∀ n ∈ T.slots, n ∈ own.map (·.2)) (hb1 : BV (G.blk scope) tg1 T1) (hT1 : ∀ n ∈ T1.slots, n ∈ vs1)
    (hit : ∀ x ∈ xs, T.fits (inj x) ∧ IV (G.blk scope) (T.bind (inj x) (wipeR ρ (own.map (·.2)))) tg1 iter1 ((ys x).map inj1))
    (hit1 : ∀ x ∈ xs, ∀ y ∈ ys x, T1.fits (inj1 y) ∧ EV (G.blk scope) (T1.bind (inj1 y) (wipeR (T.bind (inj x) (wipeR ρ (own.map (·.2)))) vs1)) elt (g x y))
    (hs : ∀ env x, foldedSetIterable iter env x = pure x := by intro _ _; rfl) (hs1 : ∀ env x, foldedSetIterable iter1 env x = pure x := by intro _ _; rfl) :
    SV G ρ (.Assign [.Name z py] (.ListComp elt [⟨tg, iter, [], 0⟩, ⟨tg1, iter1, [], 0⟩] scope pos) spos) (.nx (ρ.set n (.own (xs.flatMap fun x => (ys x).map (g x))))) := fun X E hX hA U B σ H D R h =>
  of_ps (ps_setLc2 (i := n) (own := own) (vs1 := vs1) (by rw [hX.calm]; exact hc) (by rw [hX.N]; exact hX.nd) (by rw [hX.N]; exact hi') (by rw [hX.sc]; exact hz) (sw_true (by rw [hX.sc]; exact hk) (by rw [hX.sc]; exact hz) hln han) pi_w (by rw [hX.N, hX.sc]; exact ok) hv
    (g := aG X scope tg) (tt := aT X scope []) (wi1 := aI X scope tg1 iter1) (g1 := aG X scope tg1) (tt1 := aT X scope []) (te := aE X scope elt)
    (fun s H C cl fp => ⟨fun pins s' σ H' v u Q I r h => pg_w.run pins s' σ H' v u Q I r (h s H C cl fp)⟩) (fun s H C cl fp => ⟨fun pins s' σ H' Q I h => pts_w.run pins s' σ H' Q I (h s H C cl fp)⟩)
    (fun s H C cl fp => ⟨fun pins s' σ H' R I h => pi_w.run pins s' σ H' R I (h s H C cl fp)⟩) (fun s H C cl fp => ⟨fun pins s' σ H' v u Q I r h => pg_w.run pins s' σ H' v u Q I r (h s H C cl fp)⟩)
    (fun s H C cl fp => ⟨fun pins s' σ H' Q I h => pts_w.run pins s' σ H' Q I (h s H C cl fp)⟩) (fun s H C cl fp => ⟨fun pins s' σ H' Q I h => pe_w.run pins s' σ H' Q I (h s H C cl fp)⟩) (hs X.env) hs1)
    (lc2_read hX hc hi hl hb hT hb1 hT1 hit hit1 R fun l vs H1 e1 nl hl rs => h _ _ H1 (R.newOwn nl e1 hl rs))
theorem sv_lcA (own : List (Str × Nat)) (T : Tg) (inj : α → PV) (xs : List α) (g : α → PV) (hi' : G.N[n]? = some z) (hz : G.sc.names.lookup z = some .local) (hk : G.sc.kind = .function) (hln : (py.line == pos.line) = true) (han : (scope.names.any fun (n, k) => n == z && (k == .local || k == .cell)) = false)
    (hc : G.calm = true) (hi : IV G ρ tg iter (xs.map inj)) (hl : xs.length ≤ 100000) (ok : BlkOk G.N G.sc scope own) (hb : BV (G.blk scope) tg T) (hT : ∀ n ∈ T.slots, n ∈ own.map (·.2))
    (hit : ∀ x ∈ xs, T.fits (inj x) ∧ EV (G.blk scope) (T.bind (inj x) (wipeR ρ (own.map (·.2)))) elt (g x))
    (hs : ∀ env x, foldedSetIterable iter env x = pure x := by intro _ _; rfl) : SV G ρ (.Assign [.Name z py] (.ListComp elt [⟨tg, iter, [], 0⟩] scope pos) spos) (.nx (ρ.set n (.own (xs.map g)))) := by
  have h := sv_lcM (spos := spos) own T inj xs (fun _ => true) g hi' hz hk hln han hc hi hl ok hb hT (ifs := []) (fun x hx => ⟨(hit x hx).1, tvs_nil, fun _ => (hit x hx).2⟩) hs
  rw [show xs.filter (fun _ => true) = xs from List.filter_eq_self.mpr fun _ _ => rfl] at h
  exact h
theorem SV.to {st : Stmt} {p q : Out} (h : SV G ρ st p) (z : p = q) : SV G ρ st q := z ▸ h
theorem ex_fdivL {a b : Expr} {C : Addr} {ns : List Str} {xs : List PV} (h : EX G ρ a C ns xs) : EX G ρ (.BinOp a .FloorDiv b pos) C ns xs := fun X hX W tk U B σ H Q E q =>
  of_pe (pe_op op_fdiv pe_w pe_w) (h X hX W tk _ _ _ _ _ E q)
end
def PV.isI : PV → Bool
  | .int _ => true
  | .bl _ => true
  | _ => false
def PV.isB : PV → Bool
  | .bl _ => true
  | _ => false
def PV.isS : PV → Bool
  | .str _ => true
  | _ => false
def PV.isT : PV → Bool
  | .tup _ => true
  | _ => false
def PV.isL : PV → Bool
  | .lst _ => true
  | _ => false
section
variable {p : PV} (h : p.ty ≠ "?")
include h
theorem kit_int : kitB p.ty "int" = some p.isI := by
  cases p with
  | non => exact (by decide +kernel : kitB "NoneType" "int" = some false)
  | bl _ => exact (by decide +kernel : kitB "bool" "int" = some true)
  | int _ => exact (by decide +kernel : kitB "int" "int" = some true)
  | str _ => exact (by decide +kernel : kitB "str" "int" = some false)
  | tup _ => exact (by decide +kernel : kitB "tuple" "int" = some false)
  | lst _ => exact (by decide +kernel : kitB "list" "int" = some false)
  | exc _ _ _ _ _ => exact absurd rfl h
theorem kit_bool : kitB p.ty "bool" = some p.isB := by
  cases p with
  | non => exact (by decide +kernel : kitB "NoneType" "bool" = some false)
  | bl _ => exact (by decide +kernel : kitB "bool" "bool" = some true)
  | int _ => exact (by decide +kernel : kitB "int" "bool" = some false)
  | str _ => exact (by decide +kernel : kitB "str" "bool" = some false)
  | tup _ => exact (by decide +kernel : kitB "tuple" "bool" = some false)
  | lst _ => exact (by decide +kernel : kitB "list" "bool" = some false)
  | exc _ _ _ _ _ => exact absurd rfl h
theorem kit_str : kitB p.ty "str" = some p.isS := by
  cases p with
  | non => exact (by decide +kernel : kitB "NoneType" "str" = some false)
  | bl _ => exact (by decide +kernel : kitB "bool" "str" = some false)
  | int _ => exact (by decide +kernel : kitB "int" "str" = some false)
  | str _ => exact (by decide +kernel : kitB "str" "str" = some true)
  | tup _ => exact (by decide +kernel : kitB "tuple" "str" = some false)
  | lst _ => exact (by decide +kernel : kitB "list" "str" = some false)
  | exc _ _ _ _ _ => exact absurd rfl h
theorem kit_tuple : kitB p.ty "tuple" = some p.isT := by
  cases p with
  | non => exact (by decide +kernel : kitB "NoneType" "tuple" = some false)
  | bl _ => exact (by decide +kernel : kitB "bool" "tuple" = some false)
  | int _ => exact (by decide +kernel : kitB "int" "tuple" = some false)
  | str _ => exact (by decide +kernel : kitB "str" "tuple" = some false)
  | tup _ => exact (by decide +kernel : kitB "tuple" "tuple" = some true)
  | lst _ => exact (by decide +kernel : kitB "list" "tuple" = some false)
  | exc _ _ _ _ _ => exact absurd rfl h
end
section
variable {G : Gam} {ρ : List Sl} {a b : Expr} {rest : List Expr} {pos : Pos} {y : Bool}
theorem ev_and_f (ha : EV G ρ a (.bl false)) : EV G ρ (.BoolOp .And (a :: b :: rest) pos) (.bl false) := ev_and (x := false) (y := false) ha fun z => by cases z
theorem ev_and_t (ha : EV G ρ a (.bl true)) (hb : EV G ρ (.BoolOp .And (b :: rest) pos) (.bl y)) : EV G ρ (.BoolOp .And (a :: b :: rest) pos) (.bl y) := ev_and (x := true) (y := y) ha fun _ => hb
theorem ev_or_t (ha : EV G ρ a (.bl true)) : EV G ρ (.BoolOp .Or (a :: b :: rest) pos) (.bl true) := ev_or (x := true) (y := true) ha fun z => by cases z
theorem ev_or_f (ha : EV G ρ a (.bl false)) (hb : EV G ρ (.BoolOp .Or (b :: rest) pos) (.bl y)) : EV G ρ (.BoolOp .Or (a :: b :: rest) pos) (.bl y) := ev_or (x := false) (y := y) ha fun _ => hb
theorem wv_and_f (ha : TV G ρ a false) : WV G ρ (.BoolOp .And (a :: b :: rest) pos) false := wv_and (x := false) (y := false) ha fun z => by cases z
theorem wv_and_t (ha : TV G ρ a true) (hb : WV G ρ (.BoolOp .And (b :: rest) pos) y) : WV G ρ (.BoolOp .And (a :: b :: rest) pos) y := wv_and (x := true) (y := y) ha fun _ => hb
theorem wv_or_t (ha : TV G ρ a true) : WV G ρ (.BoolOp .Or (a :: b :: rest) pos) true := wv_or (x := true) (y := true) ha fun z => by cases z
theorem wv_or_f (ha : TV G ρ a false) (hb : WV G ρ (.BoolOp .Or (b :: rest) pos) y) : WV G ρ (.BoolOp .Or (a :: b :: rest) pos) y := wv_or (x := false) (y := y) ha fun _ => hb
theorem sv_if_t {c : Expr} {body orelse : List Stmt} {out : Out} (hc : TV G ρ c true) (h : SS G ρ body out) : SV G ρ (.If c body orelse pos) out := sv_if hc (fun _ => h) fun z => by cases z
theorem sv_if_f {c : Expr} {body orelse : List Stmt} {out : Out} (hc : TV G ρ c false) (h : SS G ρ orelse out) : SV G ρ (.If c body orelse pos) out := sv_if hc (fun z => by cases z) fun _ => h
theorem tv_not_t (ha : TV G ρ a true) : TV G ρ (.UnaryOp .Not a pos) false := tv_not ha
theorem tv_not_f (ha : TV G ρ a false) : TV G ρ (.UnaryOp .Not a pos) true := tv_not ha
end
def forBody : Stmt → List Stmt
  | .For _ _ b _ _ => b
  | .While _ b _ _ => b
  | .If _ b _ _ => b
  | _ => []
def nthS (b : List Stmt) (i : Nat) : Stmt := b.getD i (.Pass ⟨0, 0, 0, 0⟩)
theorem ev_all' {G : Gam} {ρ : List Sl} {a : Expr} {pos p1 : Pos} {α : Type} {xs : List α} {f : α → Bool} (ha : LV G ρ a (xs.map fun x => PV.bl (f x))) (hc : G.calm = true) (hm : G.mg "all" = none) (hg : G.sc.names.lookup ("all" : Str) = some .globalImplicit := by first | rfl | decide +kernel) (hs : ∀ env, starEach [a] env = [(false, eval a env)] := by intro _; rfl) :
    EV G ρ (.Call (.Name "all" p1) [a] [] pos) (.bl (xs.all f)) := by
  have h := ev_all (bs := xs.map f) (p1 := p1) (pos := pos) (a := a) (G := G) (ρ := ρ) (by rw [List.map_map]; exact ha) hc hm hg hs
  rw [List.all_map] at h
  exact h
theorem span_nil {lo hi : Int} (h : hi ≤ lo) : span lo hi = [] := by
  unfold span
  rw [show (hi - lo).toNat = 0 by omega]
  rfl
theorem span_cons {lo hi : Int} (h : lo < hi) : span lo hi = lo :: span (lo + 1) hi := by
  unfold span
  rw [show (hi - lo).toNat = (hi - (lo + 1)).toNat + 1 by omega, List.range_succ_eq_map, List.map_cons, List.map_map]
  congr 1
  · simp
  · refine List.map_congr_left fun x _ => ?_
    simp only [Function.comp, Nat.succ_eq_add_one]
    omega
end VL

namespace K12
open PySem PySem.Spec PyProof.Rows L2 VL
def topS (i : Nat) : Stmt := PySem.Challenge.pw_evenlater_k12_whole_pieces_by_orbits.main.body.getD i (.Pass ⟨0, 0, 0, 0⟩)
/-- what the module's names hold -/
structure Bt (mg : Str → Option Value) : Prop where
  len : mg "len" = none
  int : mg "int" = none
  tuple : mg "tuple" = none
  all : mg "all" = none
  range : mg "range" = none
  isinstance : mg "isinstance" = none
  set : mg "set" = none
  bool : mg "bool" = none
  str : mg "str" = none
  gcd : mg "gcd" = some (.builtin "math.gcd")
  isqrt : mg "isqrt" = some (.builtin "math.isqrt")
/-! ### the mathematics -/
def isPrime (n : Int) : Bool := decide (1 < n) && ((span 2 ((Float64.isqrt n.toNat : Nat) + 1)).all fun k => !decide (n % k = 0))
def divs (n : Int) : List Int := (span 1 (n + 1)).filter fun k => decide (n % k = 0)
def primesIn (n : Int) : List Int := (divs n).filter isPrime
def unitsIn (n : Int) : Int := (primesIn n).foldl (fun u p => u / p * (p - 1)) n
def mult (fs : List Int) : Int := fs.foldl (fun p f => p * f) 1
abbrev Clk := Int × List (Int × Int)
def clkV (c : Clk) : PV := .tup [.int c.1, .tup (c.2.map pr)]
def turnsIn (c : Clk) : Int := mult (c.2.map (·.1))
def edgeIn (c : Clk) (a : Int) : Int := mult ((c.2.filter fun m => !decide ((m.2 - 1) % a = 0)).map (·.1))
theorem isqrt_le (n : Nat) (h : n ≤ 100) : Float64.isqrt n ≤ 100 := by
  have key : ∀ n, n < 101 → Float64.isqrt n ≤ 100 := by decide +kernel
  exact key n (by omega)
abbrev nPrime : List Str := ["number", "k"]
theorem scPrime : FnScope nPrime ["number"] (defScope (topS 2)) := ⟨rfl, rfl, rfl, by decide +kernel, rfl, by decide +kernel, by decide +kernel⟩
theorem scDivs : FnScope nPrime ["number"] (defScope (topS 3)) := ⟨rfl, rfl, rfl, by decide +kernel, rfl, by decide +kernel, by decide +kernel⟩
theorem scPrimes : FnScope nPrime ["number"] (defScope (topS 4)) := ⟨rfl, rfl, rfl, by decide +kernel, rfl, by decide +kernel, by decide +kernel⟩
abbrev nUnits : List Str := ["number", "units", "prime"]
theorem scUnits : FnScope nUnits ["number"] (defScope (topS 5)) := ⟨rfl, rfl, rfl, by decide +kernel, rfl, by decide +kernel, by decide +kernel⟩
abbrev nMult : List Str := ["factors", "product", "factor"]
theorem scMult : FnScope nMult ["factors"] (defScope (topS 6)) := ⟨rfl, rfl, rfl, by decide +kernel, rfl, by decide +kernel, by decide +kernel⟩
section
variable {P : Program} {w : World} {K : PySem.W.Frag} {mg : Str → Option Value} {base : Heap}
/-- a def as it stands -/
structure At (K : PySem.W.Frag) (mg : Str → Option Value) (x : Str) (i : Nat) (ps : List Str) : Prop where
  ex : ∃ f fd, Fun K x x (topS i) f fd ∧ mg x = some (.ref f) ∧ Binds K fd ps []
theorem fn_at {x : Str} {i : Nat} {N ps : List Str} {k : Nat} {R : Rel} (A : At K mg x i ps) (S : FnScope N ps (defScope (topS i)))
    (body : ∀ args r, R args r → args.length = ps.length → ∃ out, Ends1 r out ∧ SS (gam P w K mg base N (topS i) k true) (start0 N.length args) (defBody (topS i)) out) : FnV P w K mg base (k + 1) x ps R := by
  obtain ⟨f, fd, F, hm, hb⟩ := A.ex
  exact fn_def F S hm hb body
/-- the body of a def keeps a promise -/
abbrev Bod (P : Program) (w : World) (K : PySem.W.Frag) (mg : Str → Option Value) (base : Heap) (N : List Str) (i k : Nat) (ps : List Str) (R : Rel) : Prop := ∀ args r, R args r → args.length = ps.length → ∃ out, Ends1 r out ∧ SS (gam P w K mg base N (topS i) k true) (start0 N.length args) (defBody (topS i)) out
abbrev R_prime : Rel := fun args r => ∃ n : Int, n ≤ 100 ∧ args = [.int n] ∧ r = .ok (.bl (isPrime n))
theorem fn_prime (A : At K mg "is_prime" 2 ["number"]) (b : Bt mg) : FnV P w K mg base 1 "is_prime" ["number"] R_prime := by
  refine fn_at A scPrime fun args r h hl => ?_
  obtain ⟨n, hn, rfl, rfl⟩ := h
  refine ⟨_, .rt, ?_⟩
  refine ss_one (sv_ret (ev_and (cv_gt (v 0) ev_int).ev fun h1 => ev_one ?_))
  have h1 : 1 < n := of_decide_eq_true h1
  have hq := isqrt_le n.toNat (by omega)
  refine ev_all' (lv_nv (nv_lcA [("k", 1)] (.one 1) PV.int (span 2 ((Float64.isqrt n.toNat : Nat) + 1)) _ rfl ?_ ?_ ?_ ?_ ?_ fun k hk => ⟨trivial, ?_⟩)) rfl b.all
  · exact IV.to (iv_rng2 ev_int (ev_add (ev_isqrt (v 0) (by omega) (by omega) b.isqrt) ev_int) (by omega) b.range) (rng_span2 _ _)
  · rw [span_len]; omega
  · exact blkOk_by (N := nPrime) (sc := defScope (topS 2)) (by decide +kernel)
  · exact bv_one rfl (.inl rfl)
  · decide
  · have := mem_span.mp hk
    exact (cv_nei (ev_mod (v 0) (v 1) (by omega)) ev_int).ev
abbrev R_divs : Rel := fun args r => ∃ n : Int, 0 ≤ n ∧ n ≤ 100 ∧ args = [.int n] ∧ r = .ok (.tup ((divs n).map PV.int))
theorem fn_divs (A : At K mg "divisors_in" 3 ["number"]) (b : Bt mg) : FnV P w K mg base 1 "divisors_in" ["number"] R_divs := by
  refine fn_at A scDivs fun args r h hl => ?_
  obtain ⟨n, h0, hn, rfl, rfl⟩ := h
  refine ⟨_, .rt, ?_⟩
  refine ss_one (sv_ret (ev_totup (qv_l (lv_nv (nv_lcM [("k", 1)] (.one 1) PV.int (span 1 (n + 1)) _ _ rfl ?_ ?_ ?_ ?_ ?_ fun k hk => ⟨trivial, tvs_one ?_, fun _ => v 1⟩))) b.tuple))
  · exact IV.to (iv_rng2 ev_int (ev_add (v 0) ev_int) (by omega) b.range) (rng_span2 _ _)
  · rw [span_len]; omega
  · exact blkOk_by (N := nPrime) (sc := defScope (topS 3)) (by decide +kernel)
  · exact bv_one rfl (.inl rfl)
  · decide
  · have := mem_span.mp hk
    exact (cv_eqi (ev_mod (v 0) (v 1) (by omega)) ev_int).tv
theorem mem_divs {n k : Int} : k ∈ divs n ↔ (1 ≤ k ∧ k < n + 1) ∧ n % k = 0 := by
  unfold divs
  rw [List.mem_filter, mem_span, decide_eq_true_iff]
theorem divs_len (n : Int) (h : n ≤ 100) : (divs n).length ≤ 100 := by
  refine Nat.le_trans (List.length_filter_le _ _) ?_
  rw [span_len]
  omega
abbrev R_primes : Rel := fun args r => ∃ n : Int, 0 ≤ n ∧ n ≤ 100 ∧ args = [.int n] ∧ r = .ok (.tup ((primesIn n).map PV.int))
theorem fn_primes (A : At K mg "primes_in" 4 ["number"]) (b : Bt mg) (F1 : FnV P w K mg base 1 "is_prime" ["number"] R_prime) (F2 : FnV P w K mg base 1 "divisors_in" ["number"] R_divs) : FnV P w K mg base 2 "primes_in" ["number"] R_primes := by
  refine fn_at A scPrimes fun args r h hl => ?_
  obtain ⟨n, h0, hn, rfl, rfl⟩ := h
  refine ⟨_, .rt, ?_⟩
  refine ss_one (sv_ret (ev_totup (qv_l (lv_nv (nv_lcM [("k", 1)] (.one 1) PV.int (divs n) _ _ rfl ?_ ?_ ?_ ?_ ?_ fun k hk => ⟨trivial, tvs_one ?_, fun _ => v 1⟩))) b.tuple))
  · exact iv_tup (ev_call F2 rfl (Nat.le_refl _) (av_cons (v 0) av_nil) ⟨n, h0, hn, rfl, rfl⟩ rfl)
  · have := divs_len n hn; omega
  · exact blkOk_by (N := nPrime) (sc := defScope (topS 4)) (by decide +kernel)
  · exact bv_one rfl (.inl rfl)
  · decide
  · have := (mem_divs.mp hk).1
    exact tv_val (ev_call F1 rfl (Nat.le_refl _) (av_cons (v 1) av_nil) ⟨k, by omega, rfl, rfl⟩ rfl)
theorem mem_primes {n k : Int} (h : k ∈ primesIn n) : 1 < k ∧ k < n + 1 ∧ n % k = 0 := by
  obtain ⟨h1, h2⟩ := List.mem_filter.mp h
  have h3 := mem_divs.mp h1
  unfold isPrime at h2
  have h4 := of_decide_eq_true (Bool.and_eq_true_iff.mp h2).1
  exact ⟨h4, h3.1.2, h3.2⟩
abbrev R_units : Rel := fun args r => ∃ n : Int, 0 ≤ n ∧ n ≤ 100 ∧ args = [.int n] ∧ r = .ok (.int (unitsIn n))
theorem fn_units (A : At K mg "units_in" 5 ["number"]) (b : Bt mg) (F : FnV P w K mg base 2 "primes_in" ["number"] R_primes) : FnV P w K mg base 3 "units_in" ["number"] R_units := by
  refine fn_at A scUnits fun args r h hl => ?_
  obtain ⟨n, h0, hn, rfl, rfl⟩ := h
  have loop : ∀ (ps : List Int) (u : Int) (s : Sl), (∀ p ∈ ps, 1 < p ∧ p < 2 ^ 29) → ∃ s', LoopV (gam P w K mg base nUnits (topS 5) 2 true) (.one 2) (forBody (nthS (defBody (topS 5)) 1)) (ps.map PV.int) [.val (.int n), .val (.int u), s] (.nx [.val (.int n), .val (.int (ps.foldl (fun u p => u / p * (p - 1)) u)), s']) := by
    intro ps
    induction ps with
    | nil => exact fun u s _ => ⟨s, .nil⟩
    | cons p ps ih =>
      intro u s hp
      have h1 := hp p List.mem_cons_self
      obtain ⟨s', hL⟩ := ih (u / p * (p - 1)) (.val (.int p)) fun q hq => hp q (List.mem_cons_of_mem _ hq)
      refine ⟨s', .next trivial (ss_one ?_) hL⟩
      exact sv_set (n := 1) rfl (.inl rfl) (ev_mul (ev_fdiv (v 1) (v 2) ⟨by omega, by omega⟩) (ev_sub (v 2) ev_int) (.inr (by omega)))
  obtain ⟨s', hL⟩ := loop (primesIn n) n .no fun p hp => by have := mem_primes hp; omega
  refine ⟨_, .rt, ?_⟩
  refine ss_cons (sv_set (n := 1) rfl (.inl rfl) (v 0)) (ss_cons (sv_for rfl (iv_tup (ev_call F rfl (Nat.le_refl _) (av_cons (v 0) av_nil) ⟨n, h0, hn, rfl, rfl⟩ rfl)) (bv_one rfl (.inl rfl)) hL) (ss_one (sv_ret (v 1))))
abbrev R_mult : Rel := fun args r => ∃ fs : List Int, (∀ f ∈ fs, -(2 ^ 64) < f ∧ f < 2 ^ 64) ∧ args = [.lst (fs.map PV.int)] ∧ r = .ok (.int (mult fs))
theorem fn_mult (A : At K mg "multiplied" 6 ["factors"]) : FnV P w K mg base 1 "multiplied" ["factors"] R_mult := by
  refine fn_at A scMult fun args r h hl => ?_
  obtain ⟨fs, hf, rfl, rfl⟩ := h
  have loop : ∀ (L : PV) (ps : List Int) (u : Int) (s : Sl), (∀ f ∈ ps, -(2 ^ 64) < f ∧ f < 2 ^ 64) → ∃ s', LoopV (gam P w K mg base nMult (topS 6) 0 true) (.one 2) (forBody (nthS (defBody (topS 6)) 1)) (ps.map PV.int) [.val L, .val (.int u), s] (.nx [.val L, .val (.int (ps.foldl (fun p f => p * f) u)), s']) := by
    intro L ps
    induction ps with
    | nil => exact fun u s _ => ⟨s, .nil⟩
    | cons p ps ih =>
      intro u s hp
      have h1 := hp p List.mem_cons_self
      obtain ⟨s', hL⟩ := ih (u * p) (.val (.int p)) fun q hq => hp q (List.mem_cons_of_mem _ hq)
      exact ⟨s', .next trivial (ss_one (sv_set (n := 1) rfl (.inl rfl) (ev_mul (v 1) (v 2) (.inr h1)))) hL⟩
  obtain ⟨s', hL⟩ := loop (.lst (fs.map PV.int)) fs 1 .no hf
  exact ⟨_, .rt, ss_cons (sv_set (n := 1) rfl (.inl rfl) ev_int) (ss_cons (sv_for rfl (iv_list (v 0)) (bv_one rfl (.inl rfl)) hL) (ss_one (sv_ret (v 1))))⟩
end
end K12

namespace K12
open PySem PySem.Spec PyProof.Rows L2 VL
structure OKc (c : Clk) : Prop where
  b1 : 1 ≤ c.1
  b2 : c.1 ≤ 60
  m : ∀ m ∈ c.2, (2 ≤ m.1 ∧ m.1 ≤ 60) ∧ 0 ≤ m.2 ∧ m.2 ≤ 60
  l : c.2.length ≤ 60
  t1 : 1 ≤ turnsIn c
  t2 : turnsIn c ≤ 60
theorem mult_from (fs : List Int) : ∀ (u : Int), fs.foldl (fun p f => p * f) u = u * mult fs := by
  unfold mult
  induction fs with
  | nil => intro u; simp
  | cons f fs ih =>
    intro u
    simp only [List.foldl_cons]
    rw [ih, ih (1 * f), Int.one_mul, Int.mul_assoc]
theorem mult_cons (f : Int) (fs : List Int) : mult (f :: fs) = f * mult fs := by
  have h := mult_from fs (1 * f)
  rw [Int.one_mul] at h
  unfold mult
  rw [List.foldl_cons, Int.one_mul]
  exact h
theorem mult_pos : ∀ fs : List Int, (∀ f ∈ fs, 1 ≤ f) → 1 ≤ mult fs
  | [], _ => by decide
  | f :: fs, h => by
    rw [mult_cons]
    have h1 := h f List.mem_cons_self
    have h2 := mult_pos fs fun g hg => h g (List.mem_cons_of_mem _ hg)
    have := Int.mul_le_mul h1 h2 (by omega) (by omega)
    simpa using this
theorem mult_sub_le : ∀ (fs : List (Int × Int)) (t : Int × Int → Bool), (∀ f ∈ fs, 1 ≤ f.1) → mult ((fs.filter t).map (·.1)) ≤ mult (fs.map (·.1))
  | [], _, _ => by simp
  | f :: fs, t, h => by
    have h1 := h f List.mem_cons_self
    have ht : ∀ g ∈ fs, 1 ≤ g.1 := fun g hg => h g (List.mem_cons_of_mem _ hg)
    have ih := mult_sub_le fs t ht
    have p1 : 1 ≤ mult (fs.map (·.1)) := mult_pos _ fun x hx => by
      obtain ⟨g, hg, rfl⟩ := List.mem_map.mp hx
      exact ht g hg
    rw [List.map_cons, mult_cons]
    by_cases q : t f = true
    · rw [List.filter_cons_of_pos q, List.map_cons, mult_cons]
      exact Int.mul_le_mul_of_nonneg_left ih (by omega)
    · rw [List.filter_cons_of_neg q]
      have : mult (fs.map (·.1)) ≤ f.1 * mult (fs.map (·.1)) := by
        have := Int.mul_le_mul_of_nonneg_right h1 (show (0 : Int) ≤ mult (fs.map (·.1)) by omega)
        simpa using this
      omega
theorem edge_bounds {c : Clk} (h : OKc c) (a : Int) : 1 ≤ edgeIn c a ∧ edgeIn c a ≤ 60 := by
  refine ⟨mult_pos _ fun x hx => ?_, Int.le_trans (mult_sub_le _ _ fun f hf => ?_) h.t2⟩
  · obtain ⟨g, hg, rfl⟩ := List.mem_map.mp hx
    have := (h.m g (List.mem_filter.mp hg).1).1
    omega
  · have := (h.m f hf).1
    omega
theorem units_bounds (n : Int) (h0 : 0 ≤ n) (hn : n ≤ 100) : 0 ≤ unitsIn n ∧ unitsIn n ≤ n := by
  have key : ∀ (ps : List Int) (u : Int), (∀ p ∈ ps, 1 < p) → 0 ≤ u → 0 ≤ ps.foldl (fun u p => u / p * (p - 1)) u ∧ ps.foldl (fun u p => u / p * (p - 1)) u ≤ u := by
    intro ps
    induction ps with
    | nil => exact fun u _ hu => ⟨hu, Int.le_refl _⟩
    | cons p ps ih =>
      intro u hp hu
      have h1 := hp p List.mem_cons_self
      have hq : 0 ≤ u / p := Int.ediv_nonneg hu (by omega)
      have hm : u / p * p ≤ u := Int.ediv_mul_le u (by omega)
      have e : u / p * (p - 1) = u / p * p - u / p := by rw [Int.mul_sub, Int.mul_one]
      have h2 : 0 ≤ u / p * (p - 1) := Int.mul_nonneg hq (by omega)
      have h3 : u / p * (p - 1) ≤ u := by omega
      obtain ⟨i1, i2⟩ := ih (u / p * (p - 1)) (fun q hq => hp q (List.mem_cons_of_mem _ hq)) h2
      rw [List.foldl_cons]
      exact ⟨i1, Int.le_trans i2 h3⟩
  exact key _ n (fun p hp => (mem_primes hp).1) h0
abbrev nTurns : List Str := ["clock", "mover", "_"]
theorem scTurns : FnScope nTurns ["clock"] (defScope (topS 8)) := ⟨rfl, rfl, rfl, by decide +kernel, rfl, by decide +kernel, by decide +kernel⟩
abbrev nEdge : List Str := ["clock", "a", "mover", "root"]
theorem scEdge : FnScope nEdge ["clock", "a"] (defScope (topS 9)) := ⟨rfl, rfl, rfl, by decide +kernel, rfl, by decide +kernel, by decide +kernel⟩
abbrev nThing : List Str := ["thing"]
theorem scInteger : FnScope nThing nThing (defScope (topS 11)) := ⟨rfl, rfl, rfl, by decide +kernel, rfl, by decide +kernel, by decide +kernel⟩
abbrev nFT : List Str := ["thing", "least", "most"]
theorem scFT : FnScope nFT nFT (defScope (topS 12)) := ⟨rfl, rfl, rfl, by decide +kernel, rfl, by decide +kernel, by decide +kernel⟩
abbrev nDiv : List Str := ["thing", "number"]
theorem scDiv : FnScope nDiv nDiv (defScope (topS 13)) := ⟨rfl, rfl, rfl, by decide +kernel, rfl, by decide +kernel, by decide +kernel⟩
theorem scPair : FnScope nThing nThing (defScope (topS 14)) := ⟨rfl, rfl, rfl, by decide +kernel, rfl, by decide +kernel, by decide +kernel⟩
abbrev nPiece : List Str := ["clock", "thing"]
theorem scPiece : FnScope nPiece nPiece (defScope (topS 15)) := ⟨rfl, rfl, rfl, by decide +kernel, rfl, by decide +kernel, by decide +kernel⟩
def isIntV : PV → Bool
  | .int _ => true
  | _ => false
def isFTV (l m : Int) : PV → Bool
  | .int i => decide (l ≤ i) && decide (i ≤ m)
  | _ => false
def isDivV (n : Int) : PV → Bool
  | .int i => (decide (1 ≤ i) && decide (i ≤ n)) && decide (n % i = 0)
  | _ => false
def isPairV : PV → Bool
  | .tup xs => decide ((xs.length : Int) = 2)
  | _ => false
def isPieceV (c : Clk) : PV → Bool
  | .tup [x, y] => (isDivV c.1 x && isDivV (turnsIn c) y) && (match x, y with
    | .int a, .int b => decide (((Nat.gcd (edgeIn c a).natAbs b.natAbs : Nat) : Int) = 1)
    | _, _ => false)
  | _ => false
/-- no caught error in it, on two levels -/
def Fine (p : PV) : Prop := p.ty ≠ "?" ∧ ∀ xs, p = .tup xs → ∀ x ∈ xs, x.ty ≠ "?"
section
variable {P : Program} {w : World} {K : PySem.W.Frag} {mg : Str → Option Value} {base : Heap}
abbrev R_turns : Rel := fun args r => ∃ c : Clk, OKc c ∧ args = [clkV c] ∧ r = .ok (.int (turnsIn c))
theorem fn_turns (A : At K mg "turns_in" 8 ["clock"]) (F : FnV P w K mg base 1 "multiplied" ["factors"] R_mult) : FnV P w K mg base 2 "turns_in" ["clock"] R_turns := by
  refine fn_at A scTurns fun args r h hl => ?_
  obtain ⟨c, hc, rfl, rfl⟩ := h
  refine ⟨_, .rt, ss_one (sv_ret (ev_call F rfl (Nat.le_refl _) (av_cons (ev_nv (nv_lcA [("mover", 1), ("_", 2)] (.many [1, 2]) pr c.2 (fun m => PV.int m.1) rfl ?_ ?_ ?_ ?_ ?_ fun m hm => ⟨rfl, v 1⟩)) av_nil) ⟨c.2.map (·.1), ?_, ?_, rfl⟩ rfl))⟩
  · exact iv_tup (ev_ixT (n := 1) (v 0) ev_int rfl rfl)
  · have := hc.l; omega
  · exact blkOk_by (N := nTurns) (sc := defScope (topS 8)) (by decide +kernel)
  · exact bv_many (.cons rfl (.inl rfl) (.inr rfl) (.cons rfl (.inl rfl) (.inr rfl) .nil)) rfl
  · decide
  · intro f hf
    obtain ⟨m, hm, rfl⟩ := List.mem_map.mp hf
    have := hc.m m hm
    omega
  · rw [List.map_map]; rfl
abbrev R_edge : Rel := fun args r => ∃ (c : Clk) (a : Int), OKc c ∧ 0 < a ∧ args = [clkV c, .int a] ∧ r = .ok (.int (edgeIn c a))
theorem fn_edge (A : At K mg "edge_in" 9 ["clock", "a"]) (F : FnV P w K mg base 1 "multiplied" ["factors"] R_mult) : FnV P w K mg base 2 "edge_in" ["clock", "a"] R_edge := by
  refine fn_at A scEdge fun args r h hl => ?_
  obtain ⟨c, a, hc, ha, rfl, rfl⟩ := h
  refine ⟨_, .rt, ss_one (sv_ret (ev_call F rfl (Nat.le_refl _) (av_cons (ev_nv (nv_lcM [("mover", 2), ("root", 3)] (.many [2, 3]) pr c.2 (fun m => !decide ((m.2 - 1) % a = 0)) (fun m => PV.int m.1) rfl ?_ ?_ ?_ ?_ ?_ fun m hm => ⟨rfl, tvs_one ?_, fun _ => v 2⟩)) av_nil) ⟨(c.2.filter fun m => !decide ((m.2 - 1) % a = 0)).map (·.1), ?_, ?_, rfl⟩ rfl))⟩
  · exact iv_tup (ev_ixT (n := 1) (v 0) ev_int rfl rfl)
  · have := hc.l; omega
  · exact blkOk_by (N := nEdge) (sc := defScope (topS 9)) (by decide +kernel)
  · exact bv_many (.cons rfl (.inl rfl) (.inr rfl) (.cons rfl (.inl rfl) (.inr rfl) .nil)) rfl
  · decide
  · exact (cv_nei (ev_mod (ev_sub (v 3) ev_int) (v 1) ha) ev_int).tv
  · intro f hf
    obtain ⟨m, hm, rfl⟩ := List.mem_map.mp hf
    have := hc.m m (List.mem_filter.mp hm).1
    omega
  · rw [List.map_map]; rfl
abbrev R_integer : Rel := fun args r => ∃ p : PV, p.ty ≠ "?" ∧ args = [p] ∧ r = .ok (.bl (isIntV p))
theorem fn_integer (A : At K mg "is_integer" 11 nThing) (b : Bt mg) : FnV P w K mg base 1 "is_integer" nThing R_integer := by
  refine fn_at A scInteger fun args r h hl => ?_
  obtain ⟨p, hp, rfl, rfl⟩ := h
  refine ⟨_, .rt, ss_one (sv_ret ?_)⟩
  have e : (p.isI && !p.isB) = isIntV p := by cases p <;> rfl
  rw [← e]
  exact ev_and (ev_isi (v 0) hp (kit_int hp) b.isinstance b.int (by decide +kernel)) fun _ => ev_one (ev_not (ev_isi (v 0) hp (kit_bool hp) b.isinstance b.bool (by decide +kernel)))
abbrev R_ft : Rel := fun args r => ∃ (p : PV) (l m : Int), p.ty ≠ "?" ∧ args = [p, .int l, .int m] ∧ r = .ok (.bl (isFTV l m p))
theorem fn_ft (A : At K mg "is_from_to" 12 nFT) (F : FnV P w K mg base 1 "is_integer" nThing R_integer) : FnV P w K mg base 2 "is_from_to" nFT R_ft := by
  refine fn_at A scFT fun args r h hl => ?_
  obtain ⟨p, l, m, hp, rfl, rfl⟩ := h
  refine ⟨_, .rt, ss_one (sv_ret ?_)⟩
  have call : ∀ y : Bool, (isIntV p && y) = isFTV l m p → (isIntV p = true → EV (gam P w K mg base nFT (topS 12) 1 true) (start0 nFT.length [p, .int l, .int m]) (match nthS (defBody (topS 12)) 0 with | .Return (some (.BoolOp _ (_ :: e :: _) _)) _ => e | _ => .Constant .none 0 ⟨0, 0, 0, 0⟩) (.bl y)) →
      EV (gam P w K mg base nFT (topS 12) 1 true) (start0 nFT.length [p, .int l, .int m]) (match nthS (defBody (topS 12)) 0 with | .Return (some e) _ => e | _ => .Constant .none 0 ⟨0, 0, 0, 0⟩) (.bl (isFTV l m p)) := by
    intro y e h
    rw [← e]
    exact ev_and (ev_call F rfl (Nat.le_refl _) (av_cons (v 0) av_nil) ⟨p, hp, rfl, rfl⟩ rfl) fun z => ev_one (h z)
  cases p with
  | int i => exact call (decide (l ≤ i) && decide (i ≤ m)) rfl fun _ => ev_chain_le (v 1) (v 0) (v 2)
  | non => exact call true rfl fun z => by cases z
  | bl _ => exact call true rfl fun z => by cases z
  | str _ => exact call true rfl fun z => by cases z
  | tup _ => exact call true rfl fun z => by cases z
  | lst _ => exact call true rfl fun z => by cases z
  | exc _ _ _ _ _ => exact absurd rfl hp
abbrev R_div : Rel := fun args r => ∃ (p : PV) (n : Int), p.ty ≠ "?" ∧ args = [p, .int n] ∧ r = .ok (.bl (isDivV n p))
theorem fn_div (A : At K mg "is_divisor" 13 nDiv) (F : FnV P w K mg base 2 "is_from_to" nFT R_ft) : FnV P w K mg base 3 "is_divisor" nDiv R_div := by
  refine fn_at A scDiv fun args r h hl => ?_
  obtain ⟨p, n, hp, rfl, rfl⟩ := h
  refine ⟨_, .rt, ss_one (sv_ret ?_)⟩
  have call : ∀ x, isFTV 1 n p = x → EV (gam P w K mg base nDiv (topS 13) 2 true) (start0 nDiv.length [p, .int n]) (match nthS (defBody (topS 13)) 0 with | .Return (some (.BoolOp _ (e :: _) _)) _ => e | _ => .Constant .none 0 ⟨0, 0, 0, 0⟩) (.bl x) := fun x hx => by
    subst hx
    exact ev_call F rfl (Nat.le_refl _) (av_cons (v 0) (av_cons ev_int (av_cons (v 1) av_nil))) ⟨p, 1, n, hp, rfl, rfl⟩ rfl
  cases p with
  | int i =>
    by_cases z : isFTV 1 n (.int i) = true
    · have z' : 1 ≤ i := of_decide_eq_true (Bool.and_eq_true_iff.mp z).1
      have e : isDivV n (.int i) = decide (n % i = 0) := by
        show (isFTV 1 n (.int i) && decide (n % i = 0)) = _
        rw [z, Bool.true_and]
      rw [e]
      exact ev_and_t (call _ z) (ev_one (cv_eqi (ev_mod (v 1) (v 0) (by omega)) ev_int).ev)
    · have z' : isFTV 1 n (.int i) = false := by simpa using z
      have e : isDivV n (.int i) = false := by
        show (isFTV 1 n (.int i) && decide (n % i = 0)) = _
        rw [z', Bool.false_and]
      rw [e]
      exact ev_and_f (call _ z')
  | non => exact ev_and_f (call false rfl)
  | bl x => exact ev_and_f (call false rfl)
  | str x => exact ev_and_f (call false rfl)
  | tup x => exact ev_and_f (call false rfl)
  | lst x => exact ev_and_f (call false rfl)
  | exc _ _ _ _ _ => exact absurd rfl hp
abbrev R_pair : Rel := fun args r => ∃ (p : PV), p.ty ≠ "?" ∧ args = [p] ∧ r = .ok (.bl (isPairV p))
theorem fn_pair (A : At K mg "is_pair" 14 nThing) (b : Bt mg) : FnV P w K mg base 1 "is_pair" nThing R_pair := by
  refine fn_at A scPair fun args r h hl => ?_
  obtain ⟨p, hp, rfl, rfl⟩ := h
  refine ⟨_, .rt, ss_one (sv_ret ?_)⟩
  have isi : ∀ x, p.isT = x → EV (gam P w K mg base nThing (topS 14) 0 true) (start0 nThing.length [p]) (match nthS (defBody (topS 14)) 0 with | .Return (some (.BoolOp _ (e :: _) _)) _ => e | _ => .Constant .none 0 ⟨0, 0, 0, 0⟩) (.bl x) := fun x hx => by
    subst hx
    exact ev_isi (v 0) hp (kit_tuple hp) b.isinstance b.tuple (by decide +kernel)
  cases p with
  | tup xs => exact ev_and_t (isi true rfl) (ev_one (cv_eqi (ev_len (qv_t (v 0)) b.len) ev_int).ev)
  | int x => exact ev_and_f (isi false rfl)
  | non => exact ev_and_f (isi false rfl)
  | bl x => exact ev_and_f (isi false rfl)
  | str x => exact ev_and_f (isi false rfl)
  | lst x => exact ev_and_f (isi false rfl)
  | exc _ _ _ _ _ => exact absurd rfl hp
theorem pairV_shape {p : PV} (h : isPairV p = true) : ∃ x y, p = .tup [x, y] := by
  cases p with
  | tup xs =>
    have e : (xs.length : Int) = 2 := of_decide_eq_true h
    match xs, e with
    | [x, y], _ => exact ⟨x, y, rfl⟩
    | [], e => simp at e
    | [_], e => simp at e
    | _ :: _ :: _ :: _, e => simp at e; omega
  | non => cases h
  | bl _ => cases h
  | int _ => cases h
  | str _ => cases h
  | lst _ => cases h
  | exc _ _ _ _ _ => cases h
theorem divV_shape {n : Int} {p : PV} (h : isDivV n p = true) : ∃ i, p = .int i ∧ 1 ≤ i ∧ i ≤ n ∧ n % i = 0 := by
  cases p with
  | int i =>
    obtain ⟨h1, h2⟩ := Bool.and_eq_true_iff.mp h
    obtain ⟨h3, h4⟩ := Bool.and_eq_true_iff.mp h1
    exact ⟨i, rfl, of_decide_eq_true h3, of_decide_eq_true h4, of_decide_eq_true h2⟩
  | tup _ => cases h
  | non => cases h
  | bl _ => cases h
  | str _ => cases h
  | lst _ => cases h
  | exc _ _ _ _ _ => cases h
abbrev R_piece : Rel := fun args r => ∃ (c : Clk) (p : PV), OKc c ∧ Fine p ∧ args = [clkV c, p] ∧ r = .ok (.bl (isPieceV c p))
theorem pieceV_no {c : Clk} {p : PV} (h : isPairV p = false) : isPieceV c p = false := by
  cases p with
  | tup xs =>
    match xs, h with
    | [], _ => rfl
    | [_], _ => rfl
    | [_, _], e => exact absurd e (by simp [isPairV])
    | _ :: _ :: _ :: _, _ => rfl
  | non => rfl
  | bl _ => rfl
  | int _ => rfl
  | str _ => rfl
  | lst _ => rfl
  | exc _ _ _ _ _ => rfl
theorem fn_piece (A : At K mg "is_piece" 15 nPiece) (b : Bt mg) (F1 : FnV P w K mg base 1 "is_pair" nThing R_pair) (F2 : FnV P w K mg base 3 "is_divisor" nDiv R_div) (F3 : FnV P w K mg base 2 "turns_in" ["clock"] R_turns) (F4 : FnV P w K mg base 2 "edge_in" ["clock", "a"] R_edge) :
    FnV P w K mg base 4 "is_piece" nPiece R_piece := by
  refine fn_at A scPiece fun args r h hl => ?_
  obtain ⟨c, p, hc, hp, rfl, rfl⟩ := h
  refine ⟨_, .rt, ?_⟩
  have pairE : ∀ x, isPairV p = x → EV (gam P w K mg base nPiece (topS 15) 3 true) (start0 nPiece.length [clkV c, p]) (match nthS (defBody (topS 15)) 0 with | .If (.UnaryOp _ (.BoolOp _ (e :: _) _) _) _ _ _ => e | _ => .Constant .none 0 ⟨0, 0, 0, 0⟩) (.bl x) := fun x hx => by
    subst hx
    exact ev_call F1 rfl (show (1:Nat) ≤ 3 by decide) (av_cons (v 1) av_nil) ⟨p, hp.1, rfl, rfl⟩ rfl
  by_cases h1 : isPairV p = true
  · obtain ⟨x, y, rfl⟩ := pairV_shape h1
    have hx := hp.2 _ rfl x (by simp)
    have hy := hp.2 _ rfl y (by simp)
    have div1 : ∀ z, isDivV c.1 x = z → EV (gam P w K mg base nPiece (topS 15) 3 true) (start0 nPiece.length [clkV c, .tup [x, y]]) (match nthS (defBody (topS 15)) 0 with | .If (.UnaryOp _ (.BoolOp _ (_ :: e :: _) _) _) _ _ _ => e | _ => .Constant .none 0 ⟨0, 0, 0, 0⟩) (.bl z) := fun z hz => by
      subst hz
      exact ev_call F2 rfl (show (3:Nat) ≤ 3 by decide) (av_cons (ev_ixT (n := 0) (v 1) ev_int rfl rfl) (av_cons (ev_ixT (n := 0) (v 0) ev_int rfl rfl) av_nil)) ⟨_, _, hx, rfl, rfl⟩ rfl
    have div2 : ∀ z, isDivV (turnsIn c) y = z → EV (gam P w K mg base nPiece (topS 15) 3 true) (start0 nPiece.length [clkV c, .tup [x, y]]) (match nthS (defBody (topS 15)) 0 with | .If (.UnaryOp _ (.BoolOp _ (_ :: _ :: e :: _) _) _) _ _ _ => e | _ => .Constant .none 0 ⟨0, 0, 0, 0⟩) (.bl z) := fun z hz => by
      subst hz
      exact ev_call F2 rfl (show (3:Nat) ≤ 3 by decide) (av_cons (ev_ixT (n := 1) (v 1) ev_int rfl rfl) (av_cons (ev_call F3 rfl (show (2:Nat) ≤ 3 by decide) (av_cons (v 0) av_nil) ⟨c, hc, rfl, rfl⟩ rfl) av_nil)) ⟨_, _, hy, rfl, rfl⟩ rfl
    cases h2 : isDivV c.1 x with
    | true =>
      obtain ⟨a, rfl, a1, a2, a3⟩ := divV_shape h2
      cases h3 : isDivV (turnsIn c) y with
      | true =>
        obtain ⟨d, rfl, d1, d2, d3⟩ := divV_shape h3
        have e : isPieceV c (.tup [.int a, .int d]) = decide (((Nat.gcd (edgeIn c a).natAbs d.natAbs : Nat) : Int) = 1) := by
          simp only [isPieceV, h2, h3, Bool.true_and]
        rw [e]
        refine ss_cons (sv_if_f (tv_not_t (tv_w (wv_and_t (tv_val (pairE _ h1)) (wv_and_t (tv_val (div1 _ h2)) (wv_and1 (tv_val (div2 _ h3))))))) ss_nil) (ss_one (sv_ret ?_))
        exact (cv_eqi (ev_gcd (ev_call F4 rfl (show (2:Nat) ≤ 3 by decide) (av_cons (v 0) (av_cons (ev_ixT (n := 0) (v 1) ev_int rfl rfl) av_nil)) ⟨c, a, hc, by omega, rfl, rfl⟩ rfl) (ev_ixT (n := 1) (v 1) ev_int rfl rfl) b.gcd) ev_int).ev
      | false =>
        have e : isPieceV c (.tup [.int a, y]) = false := by simp [isPieceV, h3]
        rw [e]
        exact ss_stop (sv_if_t (tv_not_f (tv_w (wv_and_t (tv_val (pairE _ h1)) (wv_and_t (tv_val (div1 _ h2)) (wv_and1 (tv_val (div2 _ h3))))))) (ss_one (sv_ret ev_bl)))
    | false =>
      have e : isPieceV c (.tup [x, y]) = false := by simp [isPieceV, h2]
      rw [e]
      exact ss_stop (sv_if_t (tv_not_f (tv_w (wv_and_t (tv_val (pairE _ h1)) (wv_and_f (tv_val (div1 _ h2)))))) (ss_one (sv_ret ev_bl)))
  · have h1' : isPairV p = false := by simpa using h1
    rw [pieceV_no h1']
    exact ss_stop (sv_if_t (tv_not_f (tv_w (wv_and_f (tv_val (pairE _ h1'))))) (ss_one (sv_ret ev_bl)))
end
end K12

namespace K12
open PySem PySem.Spec PyProof.Rows L2 VL
abbrev nNeed : List Str := ["fine", "word"]
theorem scNeed : FnScope nNeed nNeed (defScope (topS 21)) := ⟨rfl, rfl, rfl, by decide +kernel, rfl, by decide +kernel, by decide +kernel⟩
abbrev nPOf : List Str := ["clock", "pairs", "a", "b", "pair"]
theorem scPOf : FnScope nPOf ["clock"] (defScope (topS 23)) := ⟨rfl, rfl, rfl, by decide +kernel, rfl, by decide +kernel, by decide +kernel⟩
abbrev nAt : List Str := ["clock", "piece"]
theorem scEAt : FnScope nAt nAt (defScope (topS 24)) := ⟨rfl, rfl, rfl, by decide +kernel, rfl, by decide +kernel, by decide +kernel⟩
theorem scWAt : FnScope nAt nAt (defScope (topS 25)) := ⟨rfl, rfl, rfl, by decide +kernel, rfl, by decide +kernel, by decide +kernel⟩
theorem scGAt : FnScope nAt nAt (defScope (topS 26)) := ⟨rfl, rfl, rfl, by decide +kernel, rfl, by decide +kernel, by decide +kernel⟩
abbrev nUn : List Str := ["clock", "piece", "a", "b"]
theorem scUAt : FnScope nUn nAt (defScope (topS 27)) := ⟨rfl, rfl, rfl, by decide +kernel, rfl, by decide +kernel, by decide +kernel⟩
/-- the moves and pieces as pairs -/
def pairsOf (x y : Int) : List (Int × Int) := (divs x).flatMap fun a => (divs y).map fun b => (a, b)
def piecesOf (c : Clk) : List (Int × Int) := (pairsOf c.1 (turnsIn c)).filter fun z => isPieceV c (pr z)
theorem pairs_pr (x y : Int) : ((divs x).flatMap fun a => (divs y).map fun b => pr (a, b)) = (pairsOf x y).map pr := by
  unfold pairsOf
  rw [List.map_flatMap]
  congr 1
  funext a
  rw [List.map_map]
  rfl
theorem flat_len {α β : Type} (n : Nat) (f : α → List β) (h : ∀ x, (f x).length ≤ n) : ∀ xs : List α, (xs.flatMap f).length ≤ xs.length * n
  | [] => by simp
  | x :: xs => by
    have h1 := h x
    have h2 := flat_len n f h xs
    rw [List.flatMap_cons, List.length_append, List.length_cons, Nat.add_mul]
    omega
theorem pairs_len (x y : Int) (hx : x ≤ 100) (hy : y ≤ 100) : (pairsOf x y).length ≤ 10000 := by
  have h1 := divs_len x hx
  have h2 := divs_len y hy
  have h3 := flat_len 100 (fun a => (divs y).map fun b => (a, b)) (fun a => by rw [List.length_map]; exact h2) (divs x)
  unfold pairsOf
  omega
theorem mem_pairs {x y : Int} {z : Int × Int} (h : z ∈ pairsOf x y) : (1 ≤ z.1 ∧ z.1 ≤ x ∧ x % z.1 = 0) ∧ 1 ≤ z.2 ∧ z.2 ≤ y ∧ y % z.2 = 0 := by
  obtain ⟨a, ha, hz⟩ := List.mem_flatMap.mp h
  obtain ⟨b, hb, rfl⟩ := List.mem_map.mp hz
  have h1 := mem_divs.mp ha
  have h2 := mem_divs.mp hb
  exact ⟨⟨h1.1.1, by omega, h1.2⟩, h2.1.1, by omega, h2.2⟩
theorem fine_pr (z : Int × Int) : Fine (pr z) := by
  refine ⟨show ("tuple" : String) ≠ "?" by decide, fun xs e x hx => ?_⟩
  cases e
  rcases List.mem_cons.mp hx with h | h
  · subst h; exact show ("int" : String) ≠ "?" by decide
  · rcases List.mem_cons.mp h with h | h
    · subst h; exact show ("int" : String) ≠ "?" by decide
    · cases h
structure PieceAt (c : Clk) (a b : Int) : Prop where
  a1 : 1 ≤ a
  a2 : a ≤ c.1
  a3 : c.1 % a = 0
  b1 : 1 ≤ b
  b2 : b ≤ turnsIn c
  b3 : turnsIn c % b = 0
theorem piece_shape {c : Clk} {p : PV} (h : isPieceV c p = true) : ∃ a b, p = .tup [.int a, .int b] ∧ PieceAt c a b := by
  have h1 : isPairV p = true := by
    cases e : isPairV p with
    | true => rfl
    | false => rw [pieceV_no e] at h; cases h
  obtain ⟨x, y, rfl⟩ := pairV_shape h1
  have h2 : (isDivV c.1 x && isDivV (turnsIn c) y) = true := by
    cases e : (isDivV c.1 x && isDivV (turnsIn c) y) with
    | true => rfl
    | false => simp only [isPieceV, e, Bool.false_and] at h; cases h
  obtain ⟨h3, h4⟩ := Bool.and_eq_true_iff.mp h2
  obtain ⟨a, rfl, q1, q2, q3⟩ := divV_shape h3
  obtain ⟨b, rfl, q4, q5, q6⟩ := divV_shape h4
  exact ⟨a, b, rfl, q1, q2, q3, q4, q5, q6⟩
section
variable {P : Program} {w : World} {K : PySem.W.Frag} {mg : Str → Option Value} {base : Heap} {C : Addr}
abbrev badR (C : Addr) (z : Str) : Res := .exc C ["at", "word"] [.int (-1), .str z]
abbrev R_need (C : Addr) : Rel := fun args r => ∃ (x : Bool) (z : Str), args = [.bl x, .str z] ∧ r = (if x then .ok .non else badR C z)
theorem fn_need (A : At K mg "need" 21 nNeed) (E : ErrV P w K mg base 1 "NotUsable" C "word" "at") : FnV P w K mg base 3 "need" nNeed (R_need C) := by
  refine fn_at A scNeed fun args r h hl => ?_
  obtain ⟨x, z, rfl, rfl⟩ := h
  cases x with
  | true => exact ⟨_, .nx, ss_one (sv_if_f (tv_not_t (tv_val (v 0))) ss_nil)⟩
  | false => exact ⟨_, .xc, ss_one (sv_if_t (tv_not_f (tv_val (v 0))) (ss_one (sv_raise E rfl (Nat.le_refl 2) (v 1) (ev_neg ev_int))))⟩
abbrev R_pieces : Rel := fun args r => ∃ c : Clk, OKc c ∧ args = [clkV c] ∧ r = .ok (.tup ((piecesOf c).map pr))
theorem b_pieces (b : Bt mg) (F1 : FnV P w K mg base 1 "divisors_in" ["number"] R_divs) (F2 : FnV P w K mg base 2 "turns_in" ["clock"] R_turns) (F3 : FnV P w K mg base 4 "is_piece" nPiece R_piece) : Bod P w K mg base nPOf 23 4 ["clock"] R_pieces := by
  intro args r h hl
  obtain ⟨c, hc, rfl, rfl⟩ := h
  have := hc.b1; have := hc.b2; have := hc.t1; have := hc.t2
  have hlen := pairs_len c.1 (turnsIn c) (by omega) (by omega)
  refine ⟨_, .rt, ss_own_val (n := 1) (xs := (pairsOf c.1 (turnsIn c)).map pr) (SV.to (sv_lc2 (n := 1) [("a", 2), ("b", 3)] [3] (.one 2) (.one 3) PV.int PV.int (divs c.1) (fun _ => divs (turnsIn c)) (fun a b => pr (a, b)) rfl rfl rfl rfl (by decide +kernel) rfl ?_ ?_ ?_ ?_ ?_ ?_ ?_ ?_ ?_ ?_) ?_) (show 1 < 5 by decide) (ss_one (sv_ret ?_))⟩
  · exact iv_tup (ev_call F1 rfl (show (1:Nat) ≤ 4 by decide) (av_cons (ev_ixT (n := 0) (v 0) ev_int rfl rfl) av_nil) ⟨c.1, by omega, by omega, rfl, rfl⟩ rfl)
  · rw [pairs_pr, List.length_map]; omega
  · exact blkOk_by (N := nPOf) (sc := defScope (topS 23)) (by decide +kernel)
  · decide
  · exact bv_one rfl (.inl rfl)
  · decide
  · exact bv_one rfl (.inl rfl)
  · decide
  · exact fun a ha => ⟨trivial, iv_tup (ev_call F1 rfl (show (1:Nat) ≤ 4 by decide) (av_cons (ev_call F2 rfl (show (2:Nat) ≤ 4 by decide) (av_cons (v 0) av_nil) ⟨c, hc, rfl, rfl⟩ rfl) av_nil) ⟨turnsIn c, by omega, by omega, rfl, rfl⟩ rfl)⟩
  · exact fun a ha y hy => ⟨trivial, ev_tup (av_cons (v 2) (av_cons (v 3) av_nil)) (show 2 ≤ 100000 by decide)⟩
  · rw [pairs_pr]
  · refine ev_totup (qv_l (lv_nv (nv_lcM [("pair", 4)] (.one 4) pr (pairsOf c.1 (turnsIn c)) (fun z => isPieceV c (pr z)) pr rfl ?_ ?_ ?_ ?_ ?_ fun z hz => ⟨trivial, tvs_one ?_, fun _ => v 4⟩))) b.tuple
    · exact iv_list (v 1)
    · omega
    · exact blkOk_by (N := nPOf) (sc := defScope (topS 23)) (by decide +kernel)
    · exact bv_one rfl (.inl rfl)
    · decide
    · exact tv_val (ev_call F3 rfl (show (4:Nat) ≤ 4 by decide) (av_cons (v 0) (av_cons (v 4) av_nil)) ⟨c, pr z, hc, fine_pr z, rfl, rfl⟩ rfl)
theorem fn_pieces (A : At K mg "pieces_of" 23 ["clock"]) (b : Bt mg) (F1 : FnV P w K mg base 1 "divisors_in" ["number"] R_divs) (F2 : FnV P w K mg base 2 "turns_in" ["clock"] R_turns) (F3 : FnV P w K mg base 4 "is_piece" nPiece R_piece) : FnV P w K mg base 5 "pieces_of" ["clock"] R_pieces := fn_at A scPOf (b_pieces b F1 F2 F3)
/-- what is asked of a piece -/
abbrev R_ask (C : Addr) (f : Clk → Int → Int → PV) : Rel := fun args r => ∃ (c : Clk) (p : PV), OKc c ∧ Fine p ∧ args = [clkV c, p] ∧
  ((∃ a b, p = .tup [.int a, .int b] ∧ PieceAt c a b ∧ isPieceV c p = true ∧ r = .ok (f c a b)) ∨ (isPieceV c p = false ∧ r = badR C "piece"))
section
variable {i k : Nat} {N : List Str} {rest : List Stmt} {p1 p2 p3 p4 p5 p6 p7 p8 : Pos} {kk : Nat} {a0 a1 : PV} {ρ : List Sl} {out : Out} {sc : Scope}
/-- the first line: need(is_piece(clock, piece), 'piece') -/
theorem need_line {G : Gam} {c : Clk} {p : PV} (F1 : G.Fn 4 "is_piece" nPiece R_piece) (F2 : G.Fn 3 "need" nNeed (R_need C)) (hk : 4 ≤ G.k) (hcalm : G.calm = true) (hg1 : G.sc.names.lookup ("is_piece" : Str) = some .globalImplicit) (hg2 : G.sc.names.lookup ("need" : Str) = some .globalImplicit)
    (h0 : EV G ρ (.Name "clock" p1) (clkV c)) (h1 : EV G ρ (.Name "piece" p2) p) (hc : OKc c) (hp : Fine p)
    (h : (∃ a b, p = .tup [.int a, .int b] ∧ PieceAt c a b ∧ isPieceV c p = true ∧ SS G ρ rest out) ∨ (isPieceV c p = false ∧ out = .xc ρ C ["at", "word"] [.int (-1), .str "piece"])) :
    SS G ρ (.Expr (.Call (.Name "need" p3) [.Call (.Name "is_piece" p4) [.Name "clock" p1, .Name "piece" p2] [] p5, .Constant (.str "piece") kk p6] [] p7) p8 :: rest) out := by
  have isp : ∀ x, isPieceV c p = x → EV G ρ (.Call (.Name "is_piece" p4) [.Name "clock" p1, .Name "piece" p2] [] p5) (.bl x) := fun x hx => by
    subst hx
    exact ev_call F1 hcalm hk (av_cons h0 (av_cons h1 av_nil)) ⟨c, p, hc, hp, rfl, rfl⟩ rfl hg1
  rcases h with ⟨a, b, rfl, hpa, ht, hss⟩ | ⟨hf, rfl⟩
  · exact ss_cons (sv_expr (ev_call F2 hcalm (Nat.le_trans (by decide) hk) (av_cons (isp _ ht) (av_cons ev_str av_nil)) ⟨true, "piece", rfl, rfl⟩ rfl hg2)) hss
  · exact ss_stop (sv_exprX (ex_call F2 hcalm (Nat.le_trans (by decide) hk) (av_cons (isp _ hf) (av_cons ev_str av_nil)) ⟨false, "piece", rfl, rfl⟩ rfl hg2))
end
abbrev fEdge : Clk → Int → Int → PV := fun c a b => .int (edgeIn c a)
abbrev fWidth : Clk → Int → Int → PV := fun c a b => .int (unitsIn a * unitsIn b)
abbrev fGrain : Clk → Int → Int → PV := fun c a b => .int (unitsIn a * unitsIn b / edgeIn c a)
abbrev fUnder : Clk → Int → Int → PV := fun c a b => .tup ((pairsOf a b).map pr)
theorem b_eat (F1 : FnV P w K mg base 4 "is_piece" nPiece R_piece) (F2 : FnV P w K mg base 3 "need" nNeed (R_need C)) (F3 : FnV P w K mg base 2 "edge_in" ["clock", "a"] R_edge) : Bod P w K mg base nAt 24 4 nAt (R_ask C fEdge) := by
  intro args r h hl
  obtain ⟨c, p, hc, hp, rfl, h⟩ := h
  rcases h with ⟨a, b, rfl, hpa, ht, rfl⟩ | ⟨hf, rfl⟩
  · exact ⟨_, .rt, need_line F1 F2 (Nat.le_refl 4) rfl rfl rfl (v 0) (v 1) hc hp (.inl ⟨a, b, rfl, hpa, ht, ss_one (sv_ret (ev_call F3 rfl (show (2:Nat) ≤ 4 by decide) (av_cons (v 0) (av_cons (ev_ixT (n := 0) (v 1) ev_int rfl rfl) av_nil)) ⟨c, a, hc, by have := hpa.a1; omega, rfl, rfl⟩ rfl))⟩)⟩
  · exact ⟨_, .xc, need_line F1 F2 (Nat.le_refl 4) rfl rfl rfl (v 0) (v 1) hc hp (.inr ⟨hf, rfl⟩)⟩
theorem fn_eat (A : At K mg "edge_at" 24 nAt) (F1 : FnV P w K mg base 4 "is_piece" nPiece R_piece) (F2 : FnV P w K mg base 3 "need" nNeed (R_need C)) (F3 : FnV P w K mg base 2 "edge_in" ["clock", "a"] R_edge) : FnV P w K mg base 5 "edge_at" nAt (R_ask C fEdge) := fn_at A scEAt (b_eat F1 F2 F3)
theorem b_wat (F1 : FnV P w K mg base 4 "is_piece" nPiece R_piece) (F2 : FnV P w K mg base 3 "need" nNeed (R_need C)) (F3 : FnV P w K mg base 3 "units_in" ["number"] R_units) : Bod P w K mg base nAt 25 4 nAt (R_ask C fWidth) := by
  intro args r h hl
  obtain ⟨c, p, hc, hp, rfl, h⟩ := h
  rcases h with ⟨a, b, rfl, hpa, ht, rfl⟩ | ⟨hf, rfl⟩
  · have := hpa.a1; have := hpa.a2; have := hpa.b1; have := hpa.b2; have := hc.b2; have := hc.t2
    have ua := units_bounds a (by omega) (by omega)
    have ub := units_bounds b (by omega) (by omega)
    refine ⟨_, .rt, need_line F1 F2 (Nat.le_refl 4) rfl rfl rfl (v 0) (v 1) hc hp (.inl ⟨a, b, rfl, hpa, ht, ss_one (sv_ret (ev_mul (ev_call F3 rfl (show (3:Nat) ≤ 4 by decide) (av_cons (ev_ixT (n := 0) (v 1) ev_int rfl rfl) av_nil) ⟨a, by omega, by omega, rfl, rfl⟩ rfl) (ev_call F3 rfl (show (3:Nat) ≤ 4 by decide) (av_cons (ev_ixT (n := 1) (v 1) ev_int rfl rfl) av_nil) ⟨b, by omega, by omega, rfl, rfl⟩ rfl) (.inr ?_)))⟩)⟩
    omega
  · exact ⟨_, .xc, need_line F1 F2 (Nat.le_refl 4) rfl rfl rfl (v 0) (v 1) hc hp (.inr ⟨hf, rfl⟩)⟩
theorem fn_wat (A : At K mg "width_at" 25 nAt) (F1 : FnV P w K mg base 4 "is_piece" nPiece R_piece) (F2 : FnV P w K mg base 3 "need" nNeed (R_need C)) (F3 : FnV P w K mg base 3 "units_in" ["number"] R_units) : FnV P w K mg base 5 "width_at" nAt (R_ask C fWidth) := fn_at A scWAt (b_wat F1 F2 F3)
theorem b_gat (F1 : FnV P w K mg base 5 "width_at" nAt (R_ask C fWidth)) (F2 : FnV P w K mg base 5 "edge_at" nAt (R_ask C fEdge)) : Bod P w K mg base nAt 26 5 nAt (R_ask C fGrain) := by
  intro args r h hl
  obtain ⟨c, p, hc, hp, rfl, h⟩ := h
  rcases h with ⟨a, b, rfl, hpa, ht, rfl⟩ | ⟨hf, rfl⟩
  · have he := edge_bounds hc a
    refine ⟨_, .rt, ss_one (sv_ret (ev_fdiv (ev_call F1 rfl (Nat.le_refl 5) (av_cons (v 0) (av_cons (v 1) av_nil)) ⟨c, _, hc, hp, rfl, .inl ⟨a, b, rfl, hpa, ht, rfl⟩⟩ rfl) (ev_call F2 rfl (Nat.le_refl 5) (av_cons (v 0) (av_cons (v 1) av_nil)) ⟨c, _, hc, hp, rfl, .inl ⟨a, b, rfl, hpa, ht, rfl⟩⟩ rfl) ⟨by omega, by omega⟩))⟩
  · exact ⟨_, .xc, ss_one (sv_retX (ex_fdivL (ex_call F1 rfl (Nat.le_refl 5) (av_cons (v 0) (av_cons (v 1) av_nil)) ⟨c, _, hc, hp, rfl, .inr ⟨hf, rfl⟩⟩ rfl)))⟩
theorem fn_gat (A : At K mg "grain_at" 26 nAt) (F1 : FnV P w K mg base 5 "width_at" nAt (R_ask C fWidth)) (F2 : FnV P w K mg base 5 "edge_at" nAt (R_ask C fEdge)) : FnV P w K mg base 6 "grain_at" nAt (R_ask C fGrain) := fn_at A scGAt (b_gat F1 F2)
theorem b_uat (b : Bt mg) (F1 : FnV P w K mg base 4 "is_piece" nPiece R_piece) (F2 : FnV P w K mg base 3 "need" nNeed (R_need C)) (F3 : FnV P w K mg base 1 "divisors_in" ["number"] R_divs) : Bod P w K mg base nUn 27 4 nAt (R_ask C fUnder) := by
  intro args r h hl
  obtain ⟨c, p, hc, hp, rfl, h⟩ := h
  rcases h with ⟨x, y, rfl, hpa, ht, rfl⟩ | ⟨hf, rfl⟩
  · have := hpa.a1; have := hpa.a2; have := hpa.b1; have := hpa.b2; have := hc.b2; have := hc.t2
    have hlen := pairs_len x y (by omega) (by omega)
    refine ⟨_, .rt, need_line F1 F2 (Nat.le_refl 4) rfl rfl rfl (v 0) (v 1) hc hp (.inl ⟨x, y, rfl, hpa, ht, ss_one (sv_ret (ev_totup (qv_l (lv_nv (NV.to (nv_lc2 [("a", 2), ("b", 3)] [3] (.one 2) (.one 3) PV.int PV.int (divs x) (fun _ => divs y) (fun a b => pr (a, b)) rfl ?_ ?_ ?_ ?_ ?_ ?_ ?_ ?_ ?_ ?_) (pairs_pr x y)))) b.tuple))⟩)⟩
    · exact iv_tup (ev_call F3 rfl (show (1:Nat) ≤ 4 by decide) (av_cons (ev_ixT (n := 0) (v 1) ev_int rfl rfl) av_nil) ⟨x, by omega, by omega, rfl, rfl⟩ rfl)
    · rw [pairs_pr, List.length_map]; omega
    · exact blkOk_by (N := nUn) (sc := defScope (topS 27)) (by decide +kernel)
    · decide
    · exact bv_one rfl (.inl rfl)
    · decide
    · exact bv_one rfl (.inl rfl)
    · decide
    · exact fun a ha => ⟨trivial, iv_tup (ev_call F3 rfl (show (1:Nat) ≤ 4 by decide) (av_cons (ev_ixT (n := 1) (v 1) ev_int rfl rfl) av_nil) ⟨y, by omega, by omega, rfl, rfl⟩ rfl)⟩
    · exact fun a ha y hy => ⟨trivial, ev_tup (av_cons (v 2) (av_cons (v 3) av_nil)) (show 2 ≤ 100000 by decide)⟩
  · exact ⟨_, .xc, need_line F1 F2 (Nat.le_refl 4) rfl rfl rfl (v 0) (v 1) hc hp (.inr ⟨hf, rfl⟩)⟩
theorem fn_uat (A : At K mg "pieces_under" 27 nAt) (b : Bt mg) (F1 : FnV P w K mg base 4 "is_piece" nPiece R_piece) (F2 : FnV P w K mg base 3 "need" nNeed (R_need C)) (F3 : FnV P w K mg base 1 "divisors_in" ["number"] R_divs) : FnV P w K mg base 5 "pieces_under" nAt (R_ask C fUnder) := fn_at A scUAt (b_uat b F1 F2 F3)
end
end K12

namespace K12
open PySem PySem.Spec PyProof.Rows L2 VL
abbrev nDraws : List Str := ["_law_script", "_law_many", "_law_cells", "_law_row", "_law_k", "_law_place", "_law_cell", "_law_mixed"]
abbrev pDraws : List Str := ["_law_script", "_law_many"]
theorem scDraws : FnScope nDraws pDraws (defScope (topS 29)) := ⟨rfl, rfl, rfl, by decide +kernel, rfl, by decide +kernel, by decide +kernel⟩

/-! ### what the script draws -/
def drawStep (k : Int) (st : List Int × List Int) : List Int × List Int :=
  let m := (k % (st.1.length : Int)).toNat
  let cell := st.1.getD m 0
  if 1000000000000000000 ≤ cell then (st.1.set m (cell / 10000), st.2 ++ [cell % 10000])
  else (st.1, st.2 ++ [((cell * 39119 + k * 51407 + 6113) % 2147483629 * ((cell * 39119 + k * 51407 + 6113) % 2147483629) + k * 40009 + 23) % 1000000007 / 13 % 10000])
def drawn (script : List Int) : List Int := if script = [] then span 0 24 else ((span 0 24).foldl (fun st k => drawStep k st) (script, [])).2
theorem drawStep_len (k : Int) (st : List Int × List Int) : (drawStep k st).1.length = st.1.length ∧ (drawStep k st).2.length = st.2.length + 1 := by
  unfold drawStep
  dsimp only
  split
  · exact ⟨List.length_set, by simp⟩
  · exact ⟨rfl, by simp⟩
theorem drawStep_ok (k : Int) (st : List Int × List Int) (h : ∀ x ∈ st.2, 0 ≤ x ∧ x < 10000) : ∀ x ∈ (drawStep k st).2, 0 ≤ x ∧ x < 10000 := by
  unfold drawStep
  dsimp only
  split
  · intro x hx
    rcases List.mem_append.mp hx with hx | hx
    · exact h x hx
    · have := List.mem_singleton.mp hx; omega
  · intro x hx
    rcases List.mem_append.mp hx with hx | hx
    · exact h x hx
    · have := List.mem_singleton.mp hx; omega
theorem drawn_ok (script : List Int) : (drawn script).length = 24 ∧ ∀ x ∈ drawn script, 0 ≤ x ∧ x < 10000 := by
  have key : ∀ (ks : List Int) (st : List Int × List Int), (∀ x ∈ st.2, 0 ≤ x ∧ x < 10000) → (ks.foldl (fun st k => drawStep k st) st).2.length = st.2.length + ks.length ∧ ∀ x ∈ (ks.foldl (fun st k => drawStep k st) st).2, 0 ≤ x ∧ x < 10000 := by
    intro ks
    induction ks with
    | nil => exact fun st h => ⟨rfl, h⟩
    | cons k ks ih =>
      intro st h
      obtain ⟨h1, h2⟩ := ih (drawStep k st) (drawStep_ok k st h)
      refine ⟨?_, h2⟩
      rw [List.foldl_cons, h1, (drawStep_len k st).2, List.length_cons]
      omega
  unfold drawn
  split
  · refine ⟨by rw [span_len]; decide, fun x hx => ?_⟩
    have := mem_span.mp hx
    omega
  · obtain ⟨h1, h2⟩ := key (span 0 24) (script, []) (fun x hx => nomatch hx)
    exact ⟨by rw [h1, span_len]; rfl, h2⟩
section
variable {P : Program} {w : World} {K : PySem.W.Frag} {mg : Str → Option Value} {base : Heap} {C : Addr}

abbrev R_draws : Rel := fun args r => ∃ script : List Int, script.length ≤ 1000 ∧ args = [.lst (script.map PV.int), .int 24] ∧ r = .ok (.lst ((drawn script).map PV.int))
theorem fn_draws (A : At K mg "_law_draws" 29 pDraws) (b : Bt mg) : FnV P w K mg base 1 "_law_draws" pDraws R_draws := by
  refine fn_at A scDraws fun args r h hl => ?_
  obtain ⟨script, hs, rfl, rfl⟩ := h
  refine ⟨_, .rt, ?_⟩
  by_cases hn : script = []
  · subst hn
    refine ss_stop (sv_if_t (TV.to (cv_eqi (ev_len (qv_l (lv_val (v 0))) b.len) ev_int).tv (by rfl)) (ss_one (sv_ret (ev_nv (nv_lcA [("_law_k", 4)] (.one 4) PV.int (span 0 24) PV.int rfl ?_ ?_ ?_ ?_ ?_ fun k hk => ⟨trivial, v 4⟩)))))
    · exact IV.to (iv_rng1 (v 1) (by omega) (by omega) b.range) (rng_span1 24)
    · rw [span_len]; decide
    · exact blkOk_by (N := nDraws) (sc := defScope (topS 29)) (by decide +kernel)
    · exact bv_one rfl (.inl rfl)
    · decide
  · have hpos : 0 < script.length := List.length_pos_iff.mpr hn
    have hd : drawn script = ((span 0 24).foldl (fun st k => drawStep k st) (script, [])).2 := if_neg hn
    rw [hd]
    have loop : ∀ (S : PV) (ks : List Int) (cells row : List Int) (s2 s3 s4 s7 : Sl), (∀ k ∈ ks, 0 ≤ k) → cells.length = script.length → row.length + ks.length ≤ 1000 →
        ∃ (s2' s3' s4' s7' : Sl) (cells' : List Int), LoopV (gam P w K mg base nDraws (topS 29) 0 true) (.one 4) (forBody (nthS (defBody (topS 29)) 3)) (ks.map PV.int) [.val S, .val (.int 24), .own (cells.map PV.int), .own (row.map PV.int), s2, s3, s4, s7] (.nx [.val S, .val (.int 24), .own (cells'.map PV.int), .own ((ks.foldl (fun st k => drawStep k st) (cells, row)).2.map PV.int), s2', s3', s4', s7']) := by
      intro S ks
      induction ks with
      | nil => exact fun cells row s2 s3 s4 s7 _ _ _ => ⟨s2, s3, s4, s7, cells, .nil⟩
      | cons k ks ih =>
        intro cells row s2 s3 s4 s7 hk hc hr
        have h0 := hk k List.mem_cons_self
        have hm := Int.emod_nonneg k (show (cells.length : Int) ≠ 0 by omega)
        have hm2 := Int.emod_lt_of_pos k (show (0 : Int) < (cells.length : Int) by omega)
        have hlt : (k % (cells.length : Int)).toNat < cells.length := by omega
        have hget : (cells.map PV.int)[(k % (cells.length : Int)).toNat]? = some (.int (cells.getD (k % (cells.length : Int)).toNat 0)) := by
          rw [List.getElem?_map, List.getD_eq_getElem?_getD, List.getElem?_eq_getElem hlt]
          rfl
        have hlen : ((cells.map PV.int).length : Int) = (cells.length : Int) := by rw [List.length_map]
        have hplace : k % ((cells.map PV.int).length : Int) = k % (cells.length : Int) := by rw [hlen]
        simp only [List.length_cons] at hr
        generalize hcell : cells.getD (k % (cells.length : Int)).toNat 0 = cell at hget
        by_cases hb : (1000000000000000000 : Int) ≤ cell
        · obtain ⟨s2', s3', s4', s7', cells', hL⟩ := ih (cells.set (k % (cells.length : Int)).toNat (cell / 10000)) (row ++ [cell % 10000]) (.val (.int k)) (.val (.int (k % (cells.length : Int)))) (.val (.int cell)) s7 (fun q hq => hk q (List.mem_cons_of_mem _ hq)) (by rw [List.length_set]; exact hc) (by rw [List.length_append, List.length_singleton]; omega)
          have hst : drawStep k (cells, row) = (cells.set (k % (cells.length : Int)).toNat (cell / 10000), row ++ [cell % 10000]) := by
            unfold drawStep
            dsimp only
            rw [hcell, if_pos hb]
          refine ⟨s2', s3', s4', s7', cells', .next trivial ?_ (by rw [List.foldl_cons, hst]; exact hL)⟩
          refine ss_cons (sv_set (n := 5) rfl (.inl rfl) (EV.to (ev_mod (v 4) (ev_len (qv_l (lo 2)) b.len) (by rw [hlen]; omega)) (congrArg PV.int hplace))) (ss_cons (sv_set (n := 6) rfl (.inl rfl) (ev_ixL (lo 2) (v 5) (Int.toNat_of_nonneg hm).symm hget)) ?_)
          refine ss_one (sv_if_t (TV.to (cv_ge (v 6) ev_int).tv (decide_eq_true hb)) ?_)
          refine ss_cons (sv_append (n := 3) rfl (.inl rfl) rfl (ev_mod (ev_toint (v 6) b.int) ev_int (by omega)) (by rw [List.length_map]; omega)) (ss_one ?_)
          refine SV.to (sv_setAt (n := 2) rfl (.inl rfl) rfl (ev_fdiv (ev_toint (v 6) b.int) ev_int ⟨by omega, by omega⟩) (v 5) (Int.toNat_of_nonneg hm).symm (by rw [List.length_map]; exact hlt)) ?_
          rw [List.map_set, List.map_append]
          rfl
        · obtain ⟨s2', s3', s4', s7', cells', hL⟩ := ih cells (row ++ [((cell * 39119 + k * 51407 + 6113) % 2147483629 * ((cell * 39119 + k * 51407 + 6113) % 2147483629) + k * 40009 + 23) % 1000000007 / 13 % 10000]) (.val (.int k)) (.val (.int (k % (cells.length : Int)))) (.val (.int cell)) (.val (.int (((cell * 39119 + k * 51407 + 6113) % 2147483629 * ((cell * 39119 + k * 51407 + 6113) % 2147483629) + k * 40009 + 23) % 1000000007))) (fun q hq => hk q (List.mem_cons_of_mem _ hq)) hc (by rw [List.length_append, List.length_singleton]; omega)
          have hst : drawStep k (cells, row) = (cells, row ++ [((cell * 39119 + k * 51407 + 6113) % 2147483629 * ((cell * 39119 + k * 51407 + 6113) % 2147483629) + k * 40009 + 23) % 1000000007 / 13 % 10000]) := by
            unfold drawStep
            dsimp only
            rw [hcell, if_neg hb]
          refine ⟨s2', s3', s4', s7', cells', .next trivial ?_ (by rw [List.foldl_cons, hst]; exact hL)⟩
          refine ss_cons (sv_set (n := 5) rfl (.inl rfl) (EV.to (ev_mod (v 4) (ev_len (qv_l (lo 2)) b.len) (by rw [hlen]; omega)) (congrArg PV.int hplace))) (ss_cons (sv_set (n := 6) rfl (.inl rfl) (ev_ixL (lo 2) (v 5) (Int.toNat_of_nonneg hm).symm hget)) ?_)
          refine ss_one (sv_if_f (TV.to (cv_ge (v 6) ev_int).tv (decide_eq_false hb)) ?_)
          refine ss_cons (sv_set (n := 7) rfl (.inl rfl) (ev_mod (ev_toint (ev_add (ev_add (ev_mul (v 6) ev_int (.inr (by omega))) (ev_mul (v 4) ev_int (.inr (by omega)))) ev_int) b.int) ev_int (by omega))) ?_
          refine ss_cons (sv_set (n := 7) rfl (.inl rfl) (ev_mod (ev_toint (ev_add (ev_add (ev_mul (v 7) (v 7) (.inr (by omega))) (ev_mul (v 4) ev_int (.inr (by omega)))) ev_int) b.int) ev_int (by omega))) ?_
          refine ss_one (SV.to (sv_append (n := 3) rfl (.inl rfl) rfl (ev_mod (ev_fdiv (ev_toint (v 7) b.int) ev_int ⟨by omega, by omega⟩) ev_int (by omega)) (by rw [List.length_map]; omega)) ?_)
          rw [List.map_append]
          rfl
    obtain ⟨s2', s3', s4', s7', cells', hL⟩ := loop (.lst (script.map PV.int)) (span 0 24) script [] .no .no .no .no (fun k hk => (mem_span.mp hk).1) rfl (by rw [span_len]; decide)
    refine ss_cons (sv_if_f (TV.to (cv_eqi (ev_len (qv_l (lv_val (v 0))) b.len) ev_int).tv (decide_eq_false (by rw [List.length_map]; omega))) ss_nil) (ss_cons (SV.to (sv_lcA (n := 2) [("_law_cell", 6)] (.one 6) PV.int script PV.int rfl rfl rfl rfl (by decide +kernel) rfl ?_ ?_ ?_ ?_ ?_ fun x hx => ⟨trivial, ev_toint (v 6) b.int⟩) rfl) (ss_cons (sv_own (n := 3) rfl (.inl rfl) (nv_lst av_nil (by decide))) (ss_cons (sv_for rfl (IV.to (iv_rng1 (v 1) (by omega) (by omega) b.range) (rng_span1 24)) (bv_one rfl (.inl rfl)) hL) ?_)))
    · exact iv_list (v 0)
    · omega
    · exact blkOk_by (N := nDraws) (sc := defScope (topS 29)) (by decide +kernel)
    · exact bv_one rfl (.inl rfl)
    · decide
    · exact ss_freeze (n := 3) rfl (ss_one (sv_ret (v 3)))
end
end K12

namespace K12
open PySem PySem.Spec PyProof.Rows L2 VL
abbrev nSame : List Str := ["_law_actual", "_law_due", "_law_k"]
abbrev pSame : List Str := ["_law_actual", "_law_due"]
theorem scSame : FnScope nSame pSame (defScope (topS 30)) := ⟨rfl, rfl, rfl, by decide +kernel, rfl, by decide +kernel, by decide +kernel⟩
abbrev nCom : List Str := ["_law_first", "_law_second"]
abbrev pCom : List Str := ["_law_first", "_law_second"]
theorem scCom : FnScope nCom pCom (defScope (topS 31)) := ⟨rfl, rfl, rfl, by decide +kernel, rfl, by decide +kernel, by decide +kernel⟩
abbrev nFacs : List Str := ["_law_world_here", "_law_turns", "_law_step", "_law_mover", "_law_root", "_law_made", "_law_k"]
abbrev pFacs : List Str := ["_law_world_here"]
theorem scFacs : FnScope nFacs pFacs (defScope (topS 32)) := ⟨rfl, rfl, rfl, by decide +kernel, rfl, by decide +kernel, by decide +kernel⟩

inductive SameOk : Nat → PV → Prop
  | int {d : Nat} {i : Int} : SameOk d (.int i)
  | tup {d : Nat} {xs : List PV} : (∀ x ∈ xs, SameOk d x) → xs.length ≤ 100000 → SameOk (d + 1) (.tup xs)
theorem SameOk.ty {d : Nat} {p : PV} (h : SameOk d p) : p.ty ≠ "?" := by
  cases h with
  | int => exact show ("int" : String) ≠ "?" by decide
  | tup _ _ => exact show ("tuple" : String) ≠ "?" by decide
section
variable {P : Program} {w : World} {K : PySem.W.Frag} {mg : Str → Option Value} {base : Heap} {C : Addr}

abbrev R_same (d : Nat) : Rel := fun args r => ∃ p : PV, SameOk d p ∧ args = [p, p] ∧ r = .ok (.bl true)
theorem same_int {k : Nat} {calm : Bool} (b : Bt mg) (i : Int) : SS (gam P w K mg base nSame (topS 30) k calm) (start0 nSame.length [.int i, .int i]) (defBody (topS 30)) (.rt (.bl true)) := by
  have hp : (PV.int i).ty ≠ "?" := show ("int" : String) ≠ "?" by decide
  refine ss_cons (sv_if_f (tv_val (ev_isi (p := .int i) (v 1) hp (kit_tuple hp) b.isinstance b.tuple (by decide +kernel))) ss_nil) ?_
  refine ss_cons (sv_if_f (cv_isN (p := .int i) (v 1) ev_non).tv ss_nil) ?_
  refine ss_cons (sv_if_f (tv_val (ev_isi (p := .int i) (v 1) hp (kit_bool hp) b.isinstance b.bool (by decide +kernel))) ss_nil) ?_
  refine ss_stop (sv_if_t (tv_val (ev_isi (p := .int i) (v 1) hp (kit_int hp) b.isinstance b.int (by decide +kernel))) (ss_one (sv_ret ?_)))
  exact ev_and_t (ev_isi (p := .int i) (v 0) hp (kit_int hp) b.isinstance b.int (by decide +kernel)) (ev_and_t (ev_not (ev_isi (p := .int i) (v 0) hp (kit_bool hp) b.isinstance b.bool (by decide +kernel))) (ev_one (EV.to (cv_eqi (v 0) (v 1)).ev (congrArg PV.bl (decide_eq_true rfl)))))
theorem fn_sameH (A : At K mg "_law_same" 30 pSame) (b : Bt mg) : FnVH P w K mg base 1 "_law_same" pSame (fun args r => ∃ i : Int, args = [.int i, .int i] ∧ r = .ok (.bl true)) := by
  obtain ⟨f, fd, F, hm, hb⟩ := A.ex
  refine fn_defH F scSame hm hb fun args r h hl => ?_
  obtain ⟨i, rfl, rfl⟩ := h
  exact ⟨_, .rt, same_int b i⟩
theorem fn_same (A : At K mg "_law_same" 30 pSame) (b : Bt mg) : ∀ d, FnV P w K mg base (d + 1) "_law_same" pSame (R_same d)
  | 0 => by
    refine fn_at A scSame fun args r h hl => ?_
    obtain ⟨p, hp, rfl, rfl⟩ := h
    cases hp with
    | int => exact ⟨_, .rt, same_int b _⟩
  | d + 1 => by
    have F := fn_same A b d
    refine fn_at A scSame fun args r h hl => ?_
    obtain ⟨p, hp, rfl, rfl⟩ := h
    cases hp with
    | int => exact ⟨_, .rt, same_int b _⟩
    | tup hx hlen =>
      rename_i xs
      refine ⟨_, .rt, ?_⟩
      have ht : (PV.tup xs).ty ≠ "?" := show ("tuple" : String) ≠ "?" by decide
      refine ss_stop (sv_if_t (tv_val (ev_isi (v 1) ht (kit_tuple ht) b.isinstance b.tuple (by decide +kernel))) ?_)
      refine ss_cons (sv_if_f (tv_w (wv_or_f (tv_not_t (tv_val (ev_isi (v 0) ht (kit_tuple ht) b.isinstance b.tuple (by decide +kernel)))) (wv_or1 (TV.to (cv_nei (ev_len (qv_t (v 0)) b.len) (ev_len (qv_t (v 1)) b.len)).tv ?_)))) ss_nil) (ss_one (sv_ret (EV.to (ev_all' (xs := span 0 (xs.length : Int)) (f := fun _ => true) (lv_nv (nv_lcA [("_law_k", 2)] (.one 2) PV.int (span 0 (xs.length : Int)) (fun _ => PV.bl true) rfl ?_ ?_ ?_ ?_ ?_ fun k hk => ⟨trivial, ?_⟩)) rfl b.all) ?_)))
      · simp
      · exact IV.to (iv_rng1 (ev_len (qv_t (v 1)) b.len) (by omega) (by omega) b.range) (rng_span1 _)
      · rw [span_len]; omega
      · exact blkOk_by (N := nSame) (sc := defScope (topS 30)) (by decide +kernel)
      · exact bv_one rfl (.inl rfl)
      · decide
      · have h1 := mem_span.mp hk
        have h2 : k.toNat < xs.length := by omega
        have h3 : xs[k.toNat]? = some (xs[k.toNat]) := List.getElem?_eq_getElem h2
        exact ev_call F rfl (Nat.le_refl _) (av_cons (ev_ixT (n := k.toNat) (v 0) (v 2) (by omega) h3) (av_cons (ev_ixT (n := k.toNat) (v 1) (v 2) (by omega) h3) av_nil)) ⟨_, hx _ (List.getElem_mem h2), rfl, rfl⟩ rfl
      · rw [List.all_eq_true.mpr (fun _ _ => rfl)]
/-! ### the greatest common divisor -/
abbrev R_com : Rel := fun args r => ∃ a b : Nat, a ≤ 100 ∧ b ≤ 100 ∧ args = [.int (a : Int), .int (b : Int)] ∧ r = .ok (.int ((Nat.gcd a b : Nat) : Int))
theorem fn_common (A : At K mg "_law_common" 31 pCom) (b : Bt mg) : FnV P w K mg base 1 "_law_common" pCom R_com := by
  refine fn_at A scCom fun args r h hl => ?_
  obtain ⟨x, y, hx, hy, rfl, rfl⟩ := h
  have loop : ∀ (n x y : Nat), y ≤ n → WhileV (gam P w K mg base nCom (topS 31) 0 true) (match nthS (defBody (topS 31)) 0 with | .While c _ _ _ => c | _ => .Constant .none 0 ⟨0, 0, 0, 0⟩) (forBody (nthS (defBody (topS 31)) 0)) n [.val (.int (x : Int)), .val (.int (y : Int))] (.nx [.val (.int ((Nat.gcd x y : Nat) : Int)), .val (.int 0)]) := by
    intro n
    induction n with
    | zero =>
      intro x y h
      have : y = 0 := by omega
      subst this
      rw [Nat.gcd_zero_right]
      exact .stop (TV.to (cv_nei (v 1) ev_int).tv (by rfl))
    | succ n ih =>
      intro x y h
      by_cases h0 : y = 0
      · subst h0
        rw [Nat.gcd_zero_right]
        exact .stop (TV.to (cv_nei (v 1) ev_int).tv (by rfl))
      · have hlt := Nat.mod_lt x (Nat.pos_of_ne_zero h0)
        have hL := ih y (x % y) (by omega)
        rw [show Nat.gcd y (x % y) = Nat.gcd x y by rw [Nat.gcd_comm x y, Nat.gcd_rec y x, Nat.gcd_comm], show ((x % y : Nat) : Int) = (x : Int) % (y : Int) from rfl] at hL
        refine .next (TV.to (cv_nei (v 1) ev_int).tv (by simp; omega)) (ss_one (sv_par (n := 0) (m := 1) rfl rfl rfl (by decide) rfl rfl (v 1) (ev_mod (ev_toint (v 0) b.int) (v 1) (by omega)) ?_)) hL
        intro env he
        cases env
        dsimp only at he
        subst he
        rfl
  exact ⟨_, .rt, ss_cons (sv_while (loop y x y (Nat.le_refl _))) (ss_one (sv_ret (v 0)))⟩
/-! ### the factors -/
def facsN (n step : Int) : Nat → List Int
  | 0 => [1 % n]
  | k + 1 => facsN n step k ++ [(facsN n step k).getD k 0 * step % n]
def stepIn (c : Clk) : Int := mult (c.2.map (·.2))
def facs (c : Clk) : List Int := facsN c.1 (stepIn c) (turnsIn c - 1).toNat
theorem facsN_len (n step : Int) : ∀ k, (facsN n step k).length = k + 1
  | 0 => rfl
  | k + 1 => by unfold facsN; rw [List.length_append, facsN_len n step k]; rfl
theorem facsN_ok (n step : Int) (hn : 1 ≤ n) : ∀ k, ∀ x ∈ facsN n step k, 0 ≤ x ∧ x < n
  | 0, x, h => by
    have := List.mem_singleton.mp h
    subst this
    exact ⟨Int.emod_nonneg _ (by omega), Int.emod_lt_of_pos _ (by omega)⟩
  | k + 1, x, h => by
    unfold facsN at h
    rcases List.mem_append.mp h with h | h
    · exact facsN_ok n step hn k x h
    · have := List.mem_singleton.mp h
      subst this
      exact ⟨Int.emod_nonneg _ (by omega), Int.emod_lt_of_pos _ (by omega)⟩
abbrev R_facs : Rel := fun args r => ∃ c : Clk, OKc c ∧ args = [clkV c] ∧ r = .ok (.lst ((facs c).map PV.int))
theorem fn_facs (A : At K mg "_law_factors" 32 pFacs) (b : Bt mg) : FnV P w K mg base 1 "_law_factors" pFacs R_facs := by
  refine fn_at A scFacs fun args r h hl => ?_
  obtain ⟨c, hc, rfl, rfl⟩ := h
  have h1 := hc.b1; have h2 := hc.b2; have h3 := hc.t1; have h4 := hc.t2
  have loop1 : ∀ (S : PV) (ms : List (Int × Int)) (t s : Int) (s3 s4 : Sl), (∀ m ∈ ms, (2 ≤ m.1 ∧ m.1 ≤ 60) ∧ 0 ≤ m.2 ∧ m.2 ≤ 60) →
      ∃ (s3' s4' : Sl), LoopV (gam P w K mg base nFacs (topS 32) 0 true) (.many [3, 4]) (forBody (nthS (defBody (topS 32)) 2)) (ms.map pr) [.val S, .val (.int t), .val (.int s), s3, s4, .no, .no] (.nx [.val S, .val (.int ((ms.map (·.1)).foldl (fun p f => p * f) t)), .val (.int ((ms.map (·.2)).foldl (fun p f => p * f) s)), s3', s4', .no, .no]) := by
    intro S ms
    induction ms with
    | nil => exact fun t s s3 s4 _ => ⟨s3, s4, .nil⟩
    | cons m ms ih =>
      intro t s s3 s4 hm
      have q := hm m List.mem_cons_self
      obtain ⟨s3', s4', hL⟩ := ih (t * m.1) (s * m.2) (.val (.int m.1)) (.val (.int m.2)) fun z hz => hm z (List.mem_cons_of_mem _ hz)
      exact ⟨s3', s4', .next rfl (ss_cons (sv_set (n := 1) rfl (.inl rfl) (ev_mul (v 1) (v 3) (.inr (by omega)))) (ss_one (sv_set (n := 2) rfl (.inl rfl) (ev_mul (v 2) (v 4) (.inr (by omega)))))) hL⟩
  have loop2 : ∀ (t : PV) (step : Int) (s3 s4 : Sl) (j k : Nat) (s6 : Sl), j + k ≤ 100 →
      ∃ s6' : Sl, LoopV (gam P w K mg base nFacs (topS 32) 0 true) (.one 6) (forBody (nthS (defBody (topS 32)) 4)) ((span (k : Int) ((j + k : Nat) : Int)).map PV.int) [.val (clkV c), .val t, .val (.int step), s3, s4, .own ((facsN c.1 step k).map PV.int), s6] (.nx [.val (clkV c), .val t, .val (.int step), s3, s4, .own ((facsN c.1 step (j + k)).map PV.int), s6']) := by
    intro t step s3 s4 j
    induction j with
    | zero =>
      intro k s6 _
      refine ⟨s6, ?_⟩
      rw [show span (k : Int) ((0 + k : Nat) : Int) = [] by unfold span; rw [show (((0 + k : Nat) : Int) - (k : Int)).toNat = 0 by omega]; rfl, Nat.zero_add]
      exact .nil
    | succ j ih =>
      intro k s6 hk
      obtain ⟨s6', hL⟩ := ih (k + 1) (.val (.int (k : Int))) (by omega)
      refine ⟨s6', ?_⟩
      have hspan : span (k : Int) ((j + 1 + k : Nat) : Int) = (k : Int) :: span ((k + 1 : Nat) : Int) ((j + (k + 1) : Nat) : Int) := by
        rw [span_cons (show (k : Int) < ((j + 1 + k : Nat) : Int) by omega)]
        congr 2
        omega
      rw [hspan, List.map_cons]
      rw [show facsN c.1 step (j + (k + 1)) = facsN c.1 step (j + 1 + k) by congr 1; omega] at hL
      have hlen := facsN_len c.1 step k
      have hget : ((facsN c.1 step k).map PV.int)[k]? = some (.int ((facsN c.1 step k).getD k 0)) := by
        rw [List.getElem?_map, List.getD_eq_getElem?_getD, List.getElem?_eq_getElem (show k < (facsN c.1 step k).length by omega)]
        rfl
      have hb := facsN_ok c.1 step h1 k ((facsN c.1 step k).getD k 0) (by
        rw [List.getD_eq_getElem?_getD, List.getElem?_eq_getElem (show k < (facsN c.1 step k).length by omega)]
        exact List.getElem_mem _)
      refine .next trivial (ss_one (SV.to (sv_append (n := 5) rfl (.inl rfl) rfl (ev_mod (ev_toint (ev_mul (ev_ixL (lo 5) (v 6) rfl hget) (v 2) (.inl (by omega))) b.int) (ev_ixT (n := 0) (v 0) ev_int rfl rfl) (by omega)) (by rw [List.length_map]; omega)) ?_)) hL
      rw [show facsN c.1 step (k + 1) = facsN c.1 step k ++ [(facsN c.1 step k).getD k 0 * step % c.1] from rfl, List.map_append]
      rfl
  obtain ⟨s3, s4, hL1⟩ := loop1 (clkV c) c.2 1 1 .no .no hc.m
  obtain ⟨s6, hL2⟩ := loop2 (.int (turnsIn c)) (stepIn c) s3 s4 (turnsIn c - 1).toNat 0 .no (by omega)
  rw [Nat.add_zero] at hL2
  refine ⟨_, .rt, ss_cons (sv_set (n := 1) rfl (.inl rfl) ev_int) (ss_cons (sv_set (n := 2) rfl (.inl rfl) ev_int) (ss_cons (sv_for rfl (iv_tup (ev_ixT (n := 1) (v 0) ev_int rfl rfl)) (bv_many (.cons rfl (.inl rfl) (.inl rfl) (.cons rfl (.inl rfl) (.inl rfl) .nil)) rfl) hL1) (ss_cons (sv_own (n := 5) rfl (.inl rfl) (nv_lst (av_cons (ev_mod ev_int (ev_ixT (n := 0) (v 0) ev_int rfl rfl) (by omega)) av_nil) (show 1 ≤ 100000 by decide))) (ss_cons (sv_for rfl (IV.to (iv_rng1 (ev_sub (v 1) ev_int) ?_ ?_ b.range) ?_) (bv_one rfl (.inl rfl)) hL2) (ss_freeze (n := 5) rfl (ss_one (sv_ret (v 5)))))))) ⟩
  · show -(2 ^ 62) ≤ turnsIn c - 1
    omega
  · show turnsIn c - 1 < 2 ^ 62
    omega
  · show rng 0 (turnsIn c - 1).toNat = _
    rw [show (((turnsIn c - 1).toNat : Nat) : Int) = turnsIn c - 1 by omega]
    exact rng_span1 _
end
end K12

namespace K12
open PySem PySem.Spec PyProof.Rows L2 VL
abbrev nSqf : List Str := ["_law_number", "_law_k"]
abbrev pSqf : List Str := ["_law_number"]
theorem scSqf : FnScope nSqf pSqf (defScope (topS 33)) := ⟨rfl, rfl, rfl, by decide +kernel, rfl, by decide +kernel, by decide +kernel⟩
abbrev nRoots : List Str := ["_law_beats", "_law_mover", "_law_made", "_law_root", "_law_power", "_law_k"]
abbrev pRoots : List Str := ["_law_beats", "_law_mover"]
theorem scRoots : FnScope nRoots pRoots (defScope (topS 34)) := ⟨rfl, rfl, rfl, by decide +kernel, rfl, by decide +kernel, by decide +kernel⟩

/-! ### constant tuples -/
mutual
def cEq : Nat → Expr → PV → Bool
  | _, .Constant (.int i) _ _, .int j => decide (i = j)
  | _, .Constant (.str z) _ _, .str y => decide (z = y)
  | _, .Constant (.bool z) _ _, .bl y => z == y
  | _, .Constant .none _ _, .non => true
  | n + 1, .Tuple es _ _, .tup ps => decide (ps.length ≤ 100000) && cEqs n es ps
  | _, _, _ => false
def cEqs : Nat → List Expr → List PV → Bool
  | _, [], [] => true
  | n, e :: es, p :: ps => cEq n e p && cEqs n es ps
  | _, _, _ => false
end
theorem cEq_star {n : Nat} {e : Expr} {p : PV} (h : cEq n e p = true) (es : List Expr) : ∀ env, starEach (e :: es) env = (false, eval e env) :: starEach es env := by
  intro env
  cases e <;> first | rfl | (unfold cEq at h; cases h)
theorem ev_consts {G : Gam} {ρ : List Sl} : ∀ n, (∀ e p, cEq n e p = true → EV G ρ e p) ∧ (∀ es ps, cEqs n es ps = true → AV G ρ es ps) := by
  have two : ∀ n, (∀ e p, cEq n e p = true → EV G ρ e p) → ∀ es ps, cEqs n es ps = true → AV G ρ es ps := by
    intro n h es
    induction es with
    | nil =>
      intro ps e
      cases ps with
      | nil => exact av_nil
      | cons p ps => unfold cEqs at e; cases e
    | cons e es ih =>
      intro ps z
      cases ps with
      | nil => unfold cEqs at z; cases z
      | cons p ps =>
        unfold cEqs at z
        obtain ⟨h1, h2⟩ := Bool.and_eq_true_iff.mp z
        exact av_cons (h e p h1) (ih ps h2) (cEq_star h1 es)
  have con : ∀ n i k pos p, cEq n (.Constant i k pos) p = true → EV G ρ (.Constant i k pos) p := by
    intro n i k pos p h
    cases i <;> cases p <;> unfold cEq at h <;> first | cases h; done | (have e := of_decide_eq_true h; subst e; first | exact ev_int | exact ev_str) | (have e := eq_of_beq h; subst e; exact ev_bl) | exact ev_non
  intro n
  induction n with
  | zero =>
    have one : ∀ e p, cEq 0 e p = true → EV G ρ e p := by
      intro e p h
      cases e <;> first | exact con _ _ _ _ _ h | (unfold cEq at h; cases h)
    exact ⟨one, two 0 one⟩
  | succ n ih =>
    have one : ∀ e p, cEq (n + 1) e p = true → EV G ρ e p := by
      intro e p h
      cases e with
      | Constant i k pos => exact con _ _ _ _ _ h
      | Tuple es k pos =>
        cases p with
        | tup ps =>
          unfold cEq at h
          obtain ⟨h1, h2⟩ := Bool.and_eq_true_iff.mp h
          exact ev_tup (ih.2 es ps h2) (of_decide_eq_true h1)
        | _ => unfold cEq at h; cases h
      | _ => unfold cEq at h; cases h
    exact ⟨one, two (n + 1) one⟩
theorem ev_const {G : Gam} {ρ : List Sl} {e : Expr} {p : PV} (n : Nat) (h : cEq n e p = true) : EV G ρ e p := (ev_consts n).1 e p h
/-! ### numbers without squares, roots -/
def sqf (n : Int) : Bool := (span 2 8).all fun k => !decide (n % (k * k) = 0)
def powm (n r : Int) (ks : List Int) (p : Int) : Int := ks.foldl (fun p _ => p * r % n) p
def isRoot (n m r : Int) : Bool := decide (powm n r (span 0 m) 1 = 1 % n)
def roots (n m : Int) : List Int := (span 1 (n + 1)).filter (isRoot n m)
section
variable {P : Program} {w : World} {K : PySem.W.Frag} {mg : Str → Option Value} {base : Heap} {C : Addr}

abbrev R_sqf : Rel := fun args r => ∃ n : Int, args = [.int n] ∧ r = .ok (.bl (sqf n))
theorem fn_sqf (A : At K mg "_law_square_free" 33 pSqf) (b : Bt mg) : FnV P w K mg base 1 "_law_square_free" pSqf R_sqf := by
  refine fn_at A scSqf fun args r h hl => ?_
  obtain ⟨n, rfl, rfl⟩ := h
  have loop : ∀ (ks : List Int) (s : Sl), (∀ k ∈ ks, 2 ≤ k ∧ k < 8) → ∃ s' : Sl, LoopV (gam P w K mg base nSqf (topS 33) 0 true) (.one 1) (forBody (nthS (defBody (topS 33)) 0)) (ks.map PV.int) [.val (.int n), s] (if ks.all (fun k => !decide (n % (k * k) = 0)) then .nx [.val (.int n), s'] else .rt (.bl false)) := by
    intro ks
    induction ks with
    | nil => exact fun s _ => ⟨s, .nil⟩
    | cons k ks ih =>
      intro s hk
      have h1 := hk k List.mem_cons_self
      have hpos : 0 < k * k := Int.mul_pos (by omega) (by omega)
      obtain ⟨s', hL⟩ := ih (.val (.int k)) fun q hq => hk q (List.mem_cons_of_mem _ hq)
      refine ⟨s', ?_⟩
      rw [List.all_cons]
      by_cases hz : n % (k * k) = 0
      · rw [decide_eq_true hz]
        exact .ret trivial (ss_one (sv_if_t (TV.to (cv_eqi (ev_mod (ev_toint (v 0) b.int) (ev_mul (v 1) (v 1) (.inr (by omega))) hpos) ev_int).tv (decide_eq_true hz)) (ss_one (sv_ret ev_bl))))
      · rw [decide_eq_false hz, Bool.not_false, Bool.true_and]
        exact .next trivial (ss_one (sv_if_f (TV.to (cv_eqi (ev_mod (ev_toint (v 0) b.int) (ev_mul (v 1) (v 1) (.inr (by omega))) hpos) ev_int).tv (decide_eq_false hz)) ss_nil)) hL
  obtain ⟨s', hL⟩ := loop (span 2 8) .no fun k hk => mem_span.mp hk
  refine ⟨_, .rt, ?_⟩
  have hit : IV (gam P w K mg base nSqf (topS 33) 0 true) (start0 nSqf.length [.int n]) (match nthS (defBody (topS 33)) 0 with | .For t _ _ _ _ => t | _ => .Constant .none 0 ⟨0, 0, 0, 0⟩) (match nthS (defBody (topS 33)) 0 with | .For _ i _ _ _ => i | _ => .Constant .none 0 ⟨0, 0, 0, 0⟩) ((span 2 8).map PV.int) := IV.to (iv_rng2 ev_int ev_int (by omega) b.range) (rng_span2 _ _)
  change LoopV _ _ _ _ _ (if sqf n = true then _ else _) at hL
  cases hs : sqf n with
  | true =>
    rw [if_pos hs] at hL
    exact ss_cons (sv_for rfl hit (bv_one rfl (.inl rfl)) hL) (ss_one (sv_ret ev_bl))
  | false =>
    rw [if_neg (by rw [hs]; decide)] at hL
    exact ss_stop (sv_for rfl hit (bv_one rfl (.inl rfl)) hL)
abbrev R_roots : Rel := fun args r => ∃ n m : Int, 1 ≤ n ∧ n ≤ 60 ∧ 0 ≤ m ∧ m ≤ 60 ∧ args = [.int n, .int m] ∧ r = .ok (.lst ((roots n m).map PV.int))
theorem fn_roots (A : At K mg "_law_roots" 34 pRoots) (b : Bt mg) : FnV P w K mg base 1 "_law_roots" pRoots R_roots := by
  refine fn_at A scRoots fun args r h hl => ?_
  obtain ⟨n, m, h1, h2, h3, h4, rfl, rfl⟩ := h
  have inner : ∀ (made : List Int) (root : Int) (ks : List Int) (p : Int) (s5 : Sl), 1 ≤ root → root ≤ 60 → ∃ s5' : Sl, LoopV (gam P w K mg base nRoots (topS 34) 0 true) (.one 5) (forBody (nthS (forBody (nthS (defBody (topS 34)) 1)) 1)) (ks.map PV.int) [.val (.int n), .val (.int m), .own (made.map PV.int), .val (.int root), .val (.int p), s5] (.nx [.val (.int n), .val (.int m), .own (made.map PV.int), .val (.int root), .val (.int (powm n root ks p)), s5']) := by
    intro made root ks
    induction ks with
    | nil => exact fun p s5 _ _ => ⟨s5, .nil⟩
    | cons k ks ih =>
      intro p s5 hr1 hr2
      obtain ⟨s5', hL⟩ := ih (p * root % n) (.val (.int k)) hr1 hr2
      exact ⟨s5', .next trivial (ss_one (sv_set (n := 4) rfl (.inl rfl) (ev_mod (ev_toint (ev_mul (v 4) (v 3) (.inr (by omega))) b.int) (v 0) (by omega)))) hL⟩
  have loop : ∀ (rs made : List Int) (s3 s4 s5 : Sl), (∀ r ∈ rs, 1 ≤ r ∧ r ≤ 60) → made.length + rs.length ≤ 1000 → ∃ s3' s4' s5' : Sl, LoopV (gam P w K mg base nRoots (topS 34) 0 true) (.one 3) (forBody (nthS (defBody (topS 34)) 1)) (rs.map PV.int) [.val (.int n), .val (.int m), .own (made.map PV.int), s3, s4, s5] (.nx [.val (.int n), .val (.int m), .own ((made ++ rs.filter (isRoot n m)).map PV.int), s3', s4', s5']) := by
    intro rs
    induction rs with
    | nil =>
      intro made s3 s4 s5 _ _
      refine ⟨s3, s4, s5, ?_⟩
      rw [List.filter_nil, List.append_nil]
      exact .nil
    | cons r rs ih =>
      intro made s3 s4 s5 hr hlen
      have q := hr r List.mem_cons_self
      simp only [List.length_cons] at hlen
      obtain ⟨s5', hI⟩ := inner made r (span 0 m) 1 s5 q.1 q.2
      have hit : IV (gam P w K mg base nRoots (topS 34) 0 true) [.val (.int n), .val (.int m), .own (made.map PV.int), .val (.int r), .val (.int 1), s5] (match nthS (forBody (nthS (defBody (topS 34)) 1)) 1 with | .For t _ _ _ _ => t | _ => .Constant .none 0 ⟨0, 0, 0, 0⟩) (match nthS (forBody (nthS (defBody (topS 34)) 1)) 1 with | .For _ i _ _ _ => i | _ => .Constant .none 0 ⟨0, 0, 0, 0⟩) ((span 0 m).map PV.int) := IV.to (iv_rng1 (v 1) (by omega) (by omega) b.range) (rng_span1 _)
      cases hz : isRoot n m r with
      | true =>
        obtain ⟨t3, t4, t5, hL⟩ := ih (made ++ [r]) (.val (.int r)) (.val (.int (powm n r (span 0 m) 1))) s5' (fun z hz => hr z (List.mem_cons_of_mem _ hz)) (by rw [List.length_append, List.length_singleton]; omega)
        refine ⟨t3, t4, t5, ?_⟩
        rw [List.filter_cons_of_pos hz, show made ++ r :: rs.filter (isRoot n m) = made ++ [r] ++ rs.filter (isRoot n m) by simp]
        refine .next trivial (ss_cons (sv_set (n := 4) rfl (.inl rfl) ev_int) (ss_cons (sv_for rfl hit (bv_one rfl (.inl rfl)) hI) (ss_one (sv_if_t (TV.to (cv_eqi (v 4) (ev_mod ev_int (v 0) (by omega))).tv hz) (ss_one (SV.to (sv_append (n := 2) rfl (.inl rfl) rfl (v 3) (by rw [List.length_map]; omega)) ?_)))))) hL
        rw [List.map_append]
        rfl
      | false =>
        obtain ⟨t3, t4, t5, hL⟩ := ih made (.val (.int r)) (.val (.int (powm n r (span 0 m) 1))) s5' (fun z hz => hr z (List.mem_cons_of_mem _ hz)) (by omega)
        refine ⟨t3, t4, t5, ?_⟩
        rw [List.filter_cons_of_neg (by rw [hz]; decide)]
        exact .next trivial (ss_cons (sv_set (n := 4) rfl (.inl rfl) ev_int) (ss_cons (sv_for rfl hit (bv_one rfl (.inl rfl)) hI) (ss_one (sv_if_f (TV.to (cv_eqi (v 4) (ev_mod ev_int (v 0) (by omega))).tv hz) ss_nil)))) hL
  obtain ⟨s3, s4, s5, hL⟩ := loop (span 1 (n + 1)) [] .no .no .no (fun r hr => by have := mem_span.mp hr; omega) (by rw [span_len]; simp; omega)
  rw [List.nil_append] at hL
  exact ⟨_, .rt, ss_cons (sv_own (n := 2) rfl (.inl rfl) (nv_lst av_nil (by decide))) (ss_cons (sv_for rfl (IV.to (iv_rng2 ev_int (ev_add (v 0) ev_int) (by omega) b.range) (rng_span2 _ _)) (bv_one rfl (.inl rfl)) hL) (ss_freeze (n := 2) rfl (ss_one (sv_ret (v 2)))))⟩
end
end K12

namespace K12
open PySem PySem.Spec PyProof.Rows L2 VL
abbrev nAny : List Str := ["_law_row", "_law_start", "_law_top", "_law_chosen", "_law_beats", "_law_movers", "_law_size", "_law_k", "_law_mover", "_law_roots_here", "_law_root"]
abbrev pAny : List Str := ["_law_row", "_law_start"]
theorem scAny : FnScope nAny pAny (defScope (topS 35)) := ⟨rfl, rfl, rfl, by decide +kernel, rfl, by decide +kernel, by decide +kernel⟩

def primesT : List Int := [2, 3, 5, 7, 11, 13, 17, 19, 23, 29, 31, 37, 41, 43, 47, 53, 59]
def chosen (top : Int) : List Int := (span 1 (top + 1)).filter sqf
def moved (row : List Int) (n : Int) (k : Int) (st : List (Int × Int) × Int) : Bool :=
  !decide (n % primesT.getD k.toNat 0 = 0) && (decide (st.2 * primesT.getD k.toNat 0 ≤ 60) && !decide (row.getD (k.toNat + 6) 0 % 3 = 0))
def rootOf (row : List Int) (n : Int) (k : Int) : Int :=
  if decide (1 < ((roots n (primesT.getD k.toNat 0)).length : Int)) && !decide (row.getD (k.toNat + 6) 0 % 5 = 0) then
    (roots n (primesT.getD k.toNat 0)).getD (1 + row.getD (k.toNat + 6) 0 / 15 % (((roots n (primesT.getD k.toNat 0)).length : Int) - 1)).toNat 0 else 1
def wstep (row : List Int) (n : Int) (k : Int) (st : List (Int × Int) × Int) : List (Int × Int) × Int :=
  if moved row n k st then (st.1 ++ [(primesT.getD k.toNat 0, rootOf row n k)], st.2 * primesT.getD k.toNat 0) else st
def topOf (row : List Int) : Int := 60 / ([1, 2, 3, 6] : List Int).getD (row.getD 4 0 % 4).toNat 0
def beatsOf (row : List Int) : Int := (chosen (topOf row)).getD (row.getD 5 0 % ((chosen (topOf row)).length : Int)).toNat 0
def anyWorld (row : List Int) : Clk := (beatsOf row, ((span 0 17).foldl (fun st k => wstep row (beatsOf row) k st) ([], beatsOf row)).1)
structure Row (row : List Int) : Prop where
  len : row.length = 24
  ok : ∀ x ∈ row, 0 ≤ x ∧ x < 10000
theorem getD_some {α : Type} {xs : List α} {i : Nat} (h : i < xs.length) (d : α) : xs[i]? = some (xs.getD i d) := by
  rw [List.getD_eq_getElem?_getD, List.getElem?_eq_getElem h]
  rfl
theorem getD_mem {α : Type} {xs : List α} {i : Nat} (h : i < xs.length) (d : α) : xs.getD i d ∈ xs := by
  rw [List.getD_eq_getElem?_getD, List.getElem?_eq_getElem h]
  exact List.getElem_mem _
theorem map_get {α : Type} {f : α → PV} {xs : List α} {i : Nat} (h : i < xs.length) (d : α) : (xs.map f)[i]? = some (f (xs.getD i d)) := by
  rw [List.getElem?_map, getD_some h d]
  rfl
theorem Row.at {row : List Int} (h : Row row) {i : Nat} (hi : i < 24) : 0 ≤ row.getD i 0 ∧ row.getD i 0 < 10000 := h.ok _ (getD_mem (by rw [h.len]; exact hi) 0)
theorem Row.get {row : List Int} (h : Row row) {i : Nat} (hi : i < 24) : (row.map PV.int)[i]? = some (.int (row.getD i 0)) := map_get (by rw [h.len]; exact hi) 0
theorem chosen_ok (t : Int) : ∀ x ∈ chosen t, 1 ≤ x ∧ x ≤ t := fun x hx => by
  have := mem_span.mp (List.mem_filter.mp hx).1
  omega
theorem top_ok {row : List Int} (h : Row row) : (row.getD 4 0 % 4).toNat < 4 ∧ 10 ≤ topOf row ∧ topOf row ≤ 60 ∧ 0 < (chosen (topOf row)).length := by
  have h1 := h.at (i := 4) (by decide)
  have key : ∀ i : Nat, i < 4 → 10 ≤ 60 / ([1, 2, 3, 6] : List Int).getD i 0 ∧ 60 / ([1, 2, 3, 6] : List Int).getD i 0 ≤ 60 ∧ 0 < (chosen (60 / ([1, 2, 3, 6] : List Int).getD i 0)).length := by decide +kernel
  have hlt : (row.getD 4 0 % 4).toNat < 4 := by omega
  exact ⟨hlt, key _ hlt⟩
theorem beats_ok {row : List Int} (h : Row row) : (row.getD 5 0 % ((chosen (topOf row)).length : Int)).toNat < (chosen (topOf row)).length ∧ 1 ≤ beatsOf row ∧ beatsOf row ≤ 60 := by
  obtain ⟨h1, h2, h3, h4⟩ := top_ok h
  have h5 := Int.emod_nonneg (row.getD 5 0) (show ((chosen (topOf row)).length : Int) ≠ 0 by omega)
  have h6 := Int.emod_lt_of_pos (row.getD 5 0) (show (0 : Int) < ((chosen (topOf row)).length : Int) by omega)
  have hlt : (row.getD 5 0 % ((chosen (topOf row)).length : Int)).toNat < (chosen (topOf row)).length := by omega
  have := chosen_ok _ _ (getD_mem hlt 0)
  exact ⟨hlt, by unfold beatsOf; omega, by unfold beatsOf; omega⟩
theorem primesT_ok : ∀ i : Nat, i < 17 → 2 ≤ primesT.getD i 0 ∧ primesT.getD i 0 ≤ 59 := by decide +kernel
theorem roots_len (n m : Int) (h : n ≤ 60) : (roots n m).length ≤ 60 := by
  refine Nat.le_trans (List.length_filter_le _ _) ?_
  rw [span_len]
  omega
section
variable {P : Program} {w : World} {K : PySem.W.Frag} {mg : Str → Option Value} {base : Heap} {C : Addr}

abbrev R_any : Rel := fun args r => ∃ row : List Int, Row row ∧ args = [.lst (row.map PV.int), .int 4] ∧ r = .ok (clkV (anyWorld row))
theorem fn_any (A : At K mg "_law_any_world" 35 pAny) (b : Bt mg) (F1 : FnV P w K mg base 1 "_law_square_free" pSqf R_sqf) (F2 : FnV P w K mg base 1 "_law_roots" pRoots R_roots) : FnV P w K mg base 2 "_law_any_world" pAny R_any := by
  refine fn_at A scAny fun args r h hl => ?_
  obtain ⟨row, hrow, rfl, rfl⟩ := h
  obtain ⟨t1, t2, t3, t4⟩ := top_ok hrow
  obtain ⟨b1, b2, b3⟩ := beats_ok hrow
  have g4 := hrow.at (i := 4) (by decide)
  have g5 := hrow.at (i := 5) (by decide)
  have loop : ∀ (R T Ch : PV) (n : Int), 1 ≤ n → n ≤ 60 → R = .lst (row.map PV.int) → ∀ (ks : List Int) (ms : List (Int × Int)) (z : Int) (s7 s8 s9 s10 : Sl), (∀ k ∈ ks, 0 ≤ k ∧ k < 17) → ms.length + ks.length ≤ 100 →
      ∃ s7' s8' s9' s10' s6' : Sl, LoopV (gam P w K mg base nAny (topS 35) 1 true) (.one 7) (forBody (nthS (defBody (topS 35)) 5)) (ks.map PV.int) [.val R, .val (.int 4), .val T, .val Ch, .val (.int n), .own (ms.map pr), .val (.int z), s7, s8, s9, s10] (.nx [.val R, .val (.int 4), .val T, .val Ch, .val (.int n), .own ((ks.foldl (fun st k => wstep row n k st) (ms, z)).1.map pr), s6', s7', s8', s9', s10']) := by
    intro R T Ch n n1 n2 hR ks
    subst hR
    induction ks with
    | nil => exact fun ms z s7 s8 s9 s10 _ _ => ⟨s7, s8, s9, s10, .val (.int z), .nil⟩
    | cons k ks ih =>
      intro ms z s7 s8 s9 s10 hk hlen
      have hk0 := hk k List.mem_cons_self
      have hks : ∀ q ∈ ks, 0 ≤ q ∧ q < 17 := fun q hq => hk q (List.mem_cons_of_mem _ hq)
      simp only [List.length_cons] at hlen
      have hkn : k.toNat < 17 := by omega
      have hkn' : k.toNat < primesT.length := hkn
      obtain ⟨p1, p2⟩ := primesT_ok k.toNat hkn
      obtain ⟨m, hm⟩ : ∃ m, primesT.getD k.toNat 0 = m := ⟨_, rfl⟩
      rw [hm] at p1 p2
      have hx := hrow.at (i := k.toNat + 6) (by omega)
      have tests : ∀ u, moved row n k (ms, z) = u → TV (gam P w K mg base nAny (topS 35) 1 true) [.val (.lst (row.map PV.int)), .val (.int 4), .val T, .val Ch, .val (.int n), .own (ms.map pr), .val (.int z), .val (.int k), .val (.int m), s9, s10] (match nthS (forBody (nthS (defBody (topS 35)) 5)) 1 with | .If e _ _ _ => e | _ => .Constant .none 0 ⟨0, 0, 0, 0⟩) u := by
        intro u hu
        subst hu
        unfold moved
        rw [hm]
        refine tv_w (wv_and (cv_nei (ev_mod (ev_toint (v 4) b.int) (v 8) (by omega)) ev_int).tv fun _ => wv_and (cv_le (ev_mul (v 6) (v 8) (.inr (by omega))) ev_int).tv fun _ => wv_and1 (cv_nei (ev_mod (ev_toint (ev_ixL (n := k.toNat + 6) (lv_val (v 0)) (ev_add (ev_add (v 1) ev_int) (v 7)) (by omega) (hrow.get (by omega))) b.int) ev_int (by omega)) ev_int).tv)
      cases hmv : moved row n k (ms, z) with
      | false =>
        obtain ⟨s7', s8', s9', s10', s6', hL⟩ := ih ms z (.val (.int k)) (.val (.int m)) s9 s10 hks (by omega)
        refine ⟨s7', s8', s9', s10', s6', ?_⟩
        have hst : wstep row n k (ms, z) = (ms, z) := by
          unfold wstep
          rw [if_neg (by rw [hmv]; decide)]
        rw [List.foldl_cons, hst]
        exact .next trivial (ss_cons (ρ' := [.val (.lst (row.map PV.int)), .val (.int 4), .val T, .val Ch, .val (.int n), .own (ms.map pr), .val (.int z), .val (.int k), .val (.int m), s9, s10]) (sv_set (n := 8) (p := .int m) rfl (.inl rfl) (EV.to (ev_ixT (ps := primesT.map PV.int) (n := k.toNat) (ev_const 2 (by decide +kernel)) (v 7) (by omega) (map_get hkn' 0)) (congrArg PV.int hm))) (ss_one (sv_if_f (tests _ hmv) ss_nil))) hL
      | true =>
        have hrl := roots_len n m n2
        have hst : wstep row n k (ms, z) = (ms ++ [(m, rootOf row n k)], z * m) := by
          unfold wstep
          rw [if_pos hmv, hm]
        have fin : ∀ s10 : Sl, SS (gam P w K mg base nAny (topS 35) 1 true) [.val (.lst (row.map PV.int)), .val (.int 4), .val T, .val Ch, .val (.int n), .own (ms.map pr), .val (.int z), .val (.int k), .val (.int m), .val (.lst ((roots n m).map PV.int)), .val (.int (rootOf row n k))] ((match nthS (forBody (nthS (defBody (topS 35)) 5)) 1 with | .If _ b _ _ => b | _ => []).drop 3) (.nx [.val (.lst (row.map PV.int)), .val (.int 4), .val T, .val Ch, .val (.int n), .own ((ms ++ [(m, rootOf row n k)]).map pr), .val (.int (z * m)), .val (.int k), .val (.int m), .val (.lst ((roots n m).map PV.int)), .val (.int (rootOf row n k))]) := fun s10 => by
          refine ss_cons (SV.to (sv_append (n := 5) rfl (.inl rfl) rfl (ev_tup (av_cons (v 8) (av_cons (v 10) av_nil)) (show 2 ≤ 100000 by decide)) (by rw [List.length_map]; omega)) (q := .nx [.val (.lst (row.map PV.int)), .val (.int 4), .val T, .val Ch, .val (.int n), .own ((ms ++ [(m, rootOf row n k)]).map pr), .val (.int z), .val (.int k), .val (.int m), .val (.lst ((roots n m).map PV.int)), .val (.int (rootOf row n k))]) ?_) (ss_one (sv_set (n := 6) rfl (.inl rfl) (ev_mul (v 6) (v 8) (.inr (by omega)))))
          rw [List.map_append]
          rfl
        have htest : ∀ u, (decide (1 < ((roots n m).length : Int)) && !decide (row.getD (k.toNat + 6) 0 % 5 = 0)) = u → TV (gam P w K mg base nAny (topS 35) 1 true) [.val (.lst (row.map PV.int)), .val (.int 4), .val T, .val Ch, .val (.int n), .own (ms.map pr), .val (.int z), .val (.int k), .val (.int m), .val (.lst ((roots n m).map PV.int)), .val (.int 1)] (match nthS (match nthS (forBody (nthS (defBody (topS 35)) 5)) 1 with | .If _ b _ _ => b | _ => []) 2 with | .If e _ _ _ => e | _ => .Constant .none 0 ⟨0, 0, 0, 0⟩) u := by
          intro u hu
          subst hu
          refine tv_w (wv_and (TV.to (cv_gt (ev_len (qv_l (lv_val (v 9))) b.len) ev_int).tv (by rw [List.length_map])) fun _ => wv_and1 (cv_nei (ev_mod (ev_toint (ev_ixL (n := k.toNat + 6) (lv_val (v 0)) (ev_add (ev_add (v 1) ev_int) (v 7)) (by omega) (hrow.get (by omega))) b.int) ev_int (by omega)) ev_int).tv)
        obtain ⟨s7', s8', s9', s10', s6', hL⟩ := ih (ms ++ [(m, rootOf row n k)]) (z * m) (.val (.int k)) (.val (.int m)) (.val (.lst ((roots n m).map PV.int))) (.val (.int (rootOf row n k))) hks (by rw [List.length_append, List.length_singleton]; omega)
        refine ⟨s7', s8', s9', s10', s6', ?_⟩
        rw [List.foldl_cons, hst]
        refine .next trivial (ss_cons (ρ' := [.val (.lst (row.map PV.int)), .val (.int 4), .val T, .val Ch, .val (.int n), .own (ms.map pr), .val (.int z), .val (.int k), .val (.int m), s9, s10]) (sv_set (n := 8) (p := .int m) rfl (.inl rfl) (EV.to (ev_ixT (ps := primesT.map PV.int) (n := k.toNat) (ev_const 2 (by decide +kernel)) (v 7) (by omega) (map_get hkn' 0)) (congrArg PV.int hm))) (ss_one (sv_if_t (tests _ hmv) (ss_cons (sv_set (n := 9) rfl (.inl rfl) (ev_call F2 rfl (Nat.le_refl 1) (av_cons (v 4) (av_cons (v 8) av_nil)) ⟨n, m, n1, n2, by omega, by omega, rfl, rfl⟩ rfl)) (ss_cons (sv_set (n := 10) rfl (.inl rfl) ev_int) (ss_cons ?_ (fin .no))))))) hL
        cases hz : (decide (1 < ((roots n m).length : Int)) && !decide (row.getD (k.toNat + 6) 0 % 5 = 0)) with
        | true =>
          have hr : rootOf row n k = (roots n m).getD (1 + row.getD (k.toNat + 6) 0 / 15 % (((roots n m).length : Int) - 1)).toNat 0 := by
            unfold rootOf
            rw [hm, if_pos hz]
          have hlt : 1 < ((roots n m).length : Int) := of_decide_eq_true (Bool.and_eq_true_iff.mp hz).1
          have q1 := Int.emod_nonneg (row.getD (k.toNat + 6) 0 / 15) (show (((roots n m).length : Int) - 1) ≠ 0 by omega)
          have q2 := Int.emod_lt_of_pos (row.getD (k.toNat + 6) 0 / 15) (show 0 < (((roots n m).length : Int) - 1) by omega)
          rw [hr]
          have e : (((roots n m).map PV.int).length : Int) - 1 = ((roots n m).length : Int) - 1 := by rw [List.length_map]
          refine sv_if_t (htest _ hz) (ss_one (sv_set (n := 10) rfl (.inl rfl) (ev_ixL (n := (1 + row.getD (k.toNat + 6) 0 / 15 % (((roots n m).length : Int) - 1)).toNat) (lv_val (v 9)) (ev_add ev_int (ev_mod (ev_fdiv (ev_ixL (n := k.toNat + 6) (lv_val (v 0)) (ev_add (ev_add (v 1) ev_int) (v 7)) (by omega) (hrow.get (by omega))) ev_int ⟨by omega, by omega⟩) (EV.to (ev_sub (ev_len (qv_l (lv_val (v 9))) b.len) ev_int) (congrArg PV.int e)) (by omega))) (by omega) (map_get (by omega) 0))))
        | false =>
          have hr : rootOf row n k = 1 := by
            unfold rootOf
            rw [hm, if_neg (by rw [hz]; decide)]
          rw [hr]
          exact sv_if_f (htest _ hz) ss_nil
  obtain ⟨s7', s8', s9', s10', s6', hL⟩ := loop (.lst (row.map PV.int)) (.int (topOf row)) (.lst ((chosen (topOf row)).map PV.int)) (beatsOf row) b2 b3 rfl (span 0 17) [] (beatsOf row) .no .no .no .no (fun k hk => mem_span.mp hk) (by decide)
  refine ⟨_, .rt, ?_⟩
  have hq : 0 < ([1, 2, 3, 6] : List Int).getD (row.getD 4 0 % 4).toNat 0 ∧ ([1, 2, 3, 6] : List Int).getD (row.getD 4 0 % 4).toNat 0 < 1073741824 := by
    have key : ∀ i : Nat, i < 4 → 0 < ([1, 2, 3, 6] : List Int).getD i 0 ∧ ([1, 2, 3, 6] : List Int).getD i 0 < 1073741824 := by decide +kernel
    exact key _ t1
  have e : (((chosen (topOf row)).map PV.int).length : Int) = ((chosen (topOf row)).length : Int) := by rw [List.length_map]
  refine ss_cons (sv_set (n := 2) (p := .int (topOf row)) rfl (.inl rfl) (ev_fdiv ev_int (ev_ixT (ps := ([1, 2, 3, 6] : List Int).map PV.int) (n := (row.getD 4 0 % 4).toNat) (ev_const 2 (by decide +kernel)) (ev_mod (ev_toint (ev_ixL (n := 4) (lv_val (v 0)) (v 1) rfl (hrow.get (by decide))) b.int) ev_int (by omega)) (by omega) (map_get t1 0)) hq)) ?_
  refine ss_own_val (n := 3) (xs := (chosen (topOf row)).map PV.int) (sv_lcM (n := 3) [("_law_k", 7)] (.one 7) PV.int (span 1 (topOf row + 1)) sqf PV.int rfl rfl rfl rfl (by decide +kernel) rfl ?_ ?_ ?_ ?_ ?_ fun k hk => ⟨trivial, tvs_one ?_, fun _ => v 7⟩) (show 3 < 11 by decide) ?_
  · exact IV.to (iv_rng2 ev_int (ev_add (v 2) ev_int) (by omega) b.range) (rng_span2 _ _)
  · rw [span_len]; omega
  · exact blkOk_by (N := nAny) (sc := defScope (topS 35)) (by decide +kernel)
  · exact bv_one rfl (.inl rfl)
  · decide
  · exact tv_val (ev_call F1 rfl (Nat.le_refl 1) (av_cons (v 7) av_nil) ⟨k, rfl, rfl⟩ rfl)
  · refine ss_cons (sv_set (n := 4) (p := .int (beatsOf row)) rfl (.inl rfl) (ev_ixL (n := (row.getD 5 0 % ((chosen (topOf row)).length : Int)).toNat) (lv_val (v 3)) (ev_mod (ev_toint (ev_ixL (n := 5) (lv_val (v 0)) (ev_add (v 1) ev_int) rfl (hrow.get (by decide))) b.int) (EV.to (ev_len (qv_l (lv_val (v 3))) b.len) (congrArg PV.int e)) (by omega)) (Int.toNat_of_nonneg (Int.emod_nonneg _ (by omega))).symm (map_get b1 0))) ?_
    refine ss_cons (sv_own (n := 5) rfl (.inl rfl) (nv_lst av_nil (by decide))) (ss_cons (sv_set (n := 6) rfl (.inl rfl) (v 4)) (ss_cons (sv_for rfl (IV.to (iv_rng1 ev_int (by omega) (by omega) b.range) (rng_span1 _)) (bv_one rfl (.inl rfl)) hL) (ss_one (sv_ret (ev_tup (av_cons (v 4) (av_cons (ev_totup (qv_l (lo 5)) b.tuple) av_nil)) (show 2 ≤ 100000 by decide))))))
end
end K12

namespace K12
open PySem PySem.Spec PyProof.Rows L2 VL
abbrev nWorld : List Str := ["_law_row", "_law_menu"]
abbrev pWorld : List Str := ["_law_row"]
theorem scWorld : FnScope nWorld pWorld (defScope (topS 36)) := ⟨rfl, rfl, rfl, by decide +kernel, rfl, by decide +kernel, by decide +kernel⟩
abbrev nUnL : List Str := ["_law_number", "_law_z"]
abbrev pUnL : List Str := ["_law_number"]
theorem scUnL : FnScope nUnL pUnL (defScope (topS 37)) := ⟨rfl, rfl, rfl, by decide +kernel, rfl, by decide +kernel, by decide +kernel⟩
abbrev nLEdge : List Str := ["_law_a", "_law_factors_here", "_law_factor"]
abbrev pLEdge : List Str := ["_law_a", "_law_factors_here"]
theorem scLEdge : FnScope nLEdge pLEdge (defScope (topS 38)) := ⟨rfl, rfl, rfl, by decide +kernel, rfl, by decide +kernel, by decide +kernel⟩
abbrev nLGr : List Str := ["_law_a", "_law_b", "_law_factors_here", "_law_seen", "_law_many", "_law_y", "_law_factor"]
abbrev pLGr : List Str := ["_law_a", "_law_b", "_law_factors_here"]
theorem scLGr : FnScope nLGr pLGr (defScope (topS 39)) := ⟨rfl, rfl, rfl, by decide +kernel, rfl, by decide +kernel, by decide +kernel⟩

def menuT : List Clk := [(5, [(2, 4)]), (7, [(3, 4)]), (15, [(2, 4)]), (3, [(2, 2)]), (15, [(2, 11)]), (15, [(2, 14)]), (13, [(3, 3)]), (7, [(2, 6), (3, 2)]), (21, [(2, 8)]), (21, [(2, 13)]), (21, [(2, 20)]), (14, [(3, 9)]), (11, [(5, 3)]), (5, [(2, 4), (3, 1)]), (1, [(2, 1), (3, 1)]), (1, [])]
def worldOf (row : List Int) : Clk := if decide (row.getD 2 0 % 8 < 5) then menuT.getD (row.getD 3 0 % 16).toNat (1, []) else anyWorld row
def unitsL (n : Int) : List Int := (span 0 n).filter fun z => decide (((Nat.gcd z.toNat n.toNat : Nat) : Int) = 1)
def lawEdge (a : Int) (fs : List Int) : Int := ((distinct (fs.map fun f => f % a)).length : Int)
def gin (a y : Int) (fs : List Int) (seen : List Bool) : List Bool := fs.foldl (fun s f => s.set (f * y % a).toNat true) seen
def gstep (a : Int) (fs : List Int) (y : Int) (st : List Bool × Int) : List Bool × Int := if st.1.getD y.toNat false then st else (gin a y fs st.1, st.2 + 1)
def lawGrain (a b : Int) (fs : List Int) : Int := ((unitsL a).foldl (fun st y => gstep a fs y st) (List.replicate a.toNat false, 0)).2 * ((unitsL b).length : Int)
def lawT (fs : List Int) (a b : Int) : Bool := decide ((fs.length : Int) % b = 0) && decide (((Nat.gcd b.toNat (lawEdge a fs).toNat : Nat) : Int) = 1)
def lawRow (n : Int) (fs : List Int) (a : Int) : List (Int × Int) := ((span 1 ((fs.length : Int) + 1)).filter (lawT fs a)).map fun b => (a, b)
def lawPieces (n : Int) (fs : List Int) : List (Int × Int) := (span 1 (n + 1)).flatMap fun a => if n % a = 0 then lawRow n fs a else []
theorem distinct_len (ns : List Int) : (distinct ns).length ≤ ns.length := by
  have key : ∀ (ns σ : List Int), (ns.foldl (fun σ k => if σ.any (· == k) then σ else σ ++ [k]) σ).length ≤ σ.length + ns.length := by
    intro ns
    induction ns with
    | nil => exact fun σ => Nat.le_refl _
    | cons k ns ih =>
      intro σ
      rw [List.foldl_cons, List.length_cons]
      split
      · have := ih σ; omega
      · have := ih (σ ++ [k]); rw [List.length_append, List.length_singleton] at this; omega
  have := key ns []
  simpa [distinct] using this
theorem gin_len (a y : Int) : ∀ (fs : List Int) (seen : List Bool), (gin a y fs seen).length = seen.length
  | [], _ => rfl
  | f :: fs, seen => by
    unfold gin
    rw [List.foldl_cons]
    exact (gin_len a y fs _).trans List.length_set
theorem mem_units {n z : Int} (h : z ∈ unitsL n) : 0 ≤ z ∧ z < n := mem_span.mp (List.mem_filter.mp h).1
theorem units_len (n : Int) : (unitsL n).length ≤ n.toNat := by
  refine Nat.le_trans (List.length_filter_le _ _) ?_
  rw [span_len]
  omega
section
variable {P : Program} {w : World} {K : PySem.W.Frag} {mg : Str → Option Value} {base : Heap} {C : Addr}

abbrev R_world : Rel := fun args r => ∃ row : List Int, Row row ∧ args = [.lst (row.map PV.int)] ∧ r = .ok (clkV (worldOf row))
theorem fn_world (A : At K mg "_law_world" 36 pWorld) (b : Bt mg) (F : FnV P w K mg base 2 "_law_any_world" pAny R_any) : FnV P w K mg base 3 "_law_world" pWorld R_world := by
  refine fn_at A scWorld fun args r h hl => ?_
  obtain ⟨row, hrow, rfl, rfl⟩ := h
  have g3 := hrow.at (i := 3) (by decide)
  have hlt : (row.getD 3 0 % 16).toNat < menuT.length := by
    show (row.getD 3 0 % 16).toNat < 16
    omega
  refine ⟨_, .rt, ss_cons (sv_set (n := 1) (p := .tup (menuT.map clkV)) rfl (.inl rfl) (ev_const 5 (by decide +kernel))) ?_⟩
  cases hz : decide (row.getD 2 0 % 8 < 5) with
  | true =>
    rw [show worldOf row = menuT.getD (row.getD 3 0 % 16).toNat (1, []) from if_pos hz]
    exact ss_stop (sv_if_t (TV.to (cv_lt (ev_mod (ev_toint (ev_ixL (n := 2) (lv_val (v 0)) ev_int rfl (hrow.get (by decide))) b.int) ev_int (by omega)) ev_int).tv hz) (ss_one (sv_ret (ev_ixT (ps := menuT.map clkV) (n := (row.getD 3 0 % 16).toNat) (v 1) (ev_mod (ev_toint (ev_ixL (n := 3) (lv_val (v 0)) ev_int rfl (hrow.get (by decide))) b.int) ev_int (by omega)) (by omega) (map_get hlt (1, []))))))
  | false =>
    rw [show worldOf row = anyWorld row from if_neg (by rw [hz]; decide)]
    exact ss_cons (sv_if_f (TV.to (cv_lt (ev_mod (ev_toint (ev_ixL (n := 2) (lv_val (v 0)) ev_int rfl (hrow.get (by decide))) b.int) ev_int (by omega)) ev_int).tv hz) ss_nil) (ss_one (sv_ret (ev_call F rfl (Nat.le_refl 2) (av_cons (v 0) (av_cons ev_int av_nil)) ⟨row, hrow, rfl, rfl⟩ rfl)))
abbrev R_unitsL : Rel := fun args r => ∃ n : Int, 0 ≤ n ∧ n ≤ 100 ∧ args = [.int n] ∧ r = .ok (.lst ((unitsL n).map PV.int))
theorem fn_unitsL (A : At K mg "_law_units" 37 pUnL) (b : Bt mg) (F : FnV P w K mg base 1 "_law_common" pCom R_com) : FnV P w K mg base 2 "_law_units" pUnL R_unitsL := by
  refine fn_at A scUnL fun args r h hl => ?_
  obtain ⟨n, h0, hn, rfl, rfl⟩ := h
  refine ⟨_, .rt, ss_one (sv_ret (ev_nv (nv_lcM [("_law_z", 1)] (.one 1) PV.int (span 0 n) (fun z => decide (((Nat.gcd z.toNat n.toNat : Nat) : Int) = 1)) PV.int rfl ?_ ?_ ?_ ?_ ?_ fun z hz => ⟨trivial, tvs_one ?_, fun _ => v 1⟩)))⟩
  · exact IV.to (iv_rng1 (v 0) (by omega) (by omega) b.range) (rng_span1 _)
  · rw [span_len]; omega
  · exact blkOk_by (N := nUnL) (sc := defScope (topS 37)) (by decide +kernel)
  · exact bv_one rfl (.inl rfl)
  · decide
  · have h1 := mem_span.mp hz
    exact (cv_eqi (ev_call F rfl (Nat.le_refl 1) (av_cons (v 1) (av_cons (v 0) av_nil)) ⟨z.toNat, n.toNat, by omega, by omega, by rw [Int.toNat_of_nonneg h1.1, Int.toNat_of_nonneg h0], rfl⟩ rfl) ev_int).tv
abbrev R_ledge : Rel := fun args r => ∃ (a : Int) (fs : List Int), 0 < a ∧ fs.length < 64 ∧ args = [.int a, .lst (fs.map PV.int)] ∧ r = .ok (.int (lawEdge a fs))
theorem fn_ledge (A : At K mg "_law_edge" 38 pLEdge) (b : Bt mg) : FnV P w K mg base 1 "_law_edge" pLEdge R_ledge := by
  refine fn_at A scLEdge fun args r h hl => ?_
  obtain ⟨a, fs, ha, hf, rfl, rfl⟩ := h
  refine ⟨_, .rt, ss_one (sv_ret (ev_lenSet (ns := fs.map fun f => f % a) (lv_nv (NV.to (nv_lcA [("_law_factor", 2)] (.one 2) PV.int fs (fun f => .int (f % a)) rfl ?_ ?_ ?_ ?_ ?_ fun x hx => ⟨trivial, ev_mod (ev_toint (v 2) b.int) (v 0) ha⟩) ?_)) (by rw [List.length_map]; exact hf) rfl b.len b.set))⟩
  · exact iv_list (v 1)
  · omega
  · exact blkOk_by (N := nLEdge) (sc := defScope (topS 38)) (by decide +kernel)
  · exact bv_one rfl (.inl rfl)
  · decide
  · rw [List.map_map]
    rfl
abbrev R_lgrain : Rel := fun args r => ∃ (a b : Int) (fs : List Int), 0 < a ∧ a ≤ 100 ∧ 0 ≤ b ∧ b ≤ 100 ∧ args = [.int a, .int b, .lst (fs.map PV.int)] ∧ r = .ok (.int (lawGrain a b fs))
theorem fn_lgrain (A : At K mg "_law_grain" 39 pLGr) (bt : Bt mg) (F : FnV P w K mg base 2 "_law_units" pUnL R_unitsL) : FnV P w K mg base 3 "_law_grain" pLGr R_lgrain := by
  refine fn_at A scLGr fun args r h hl => ?_
  obtain ⟨a, b, fs, ha, ha2, hb, hb2, rfl, rfl⟩ := h
  have inner : ∀ (L : PV) (many y : Int) (gs : List Int) (seen : List Bool) (s6 : Sl), 0 ≤ y → y < 100 → seen.length = a.toNat → ∃ s6' : Sl, LoopV (gam P w K mg base nLGr (topS 39) 2 true) (.one 6) (forBody (nthS (forBody (nthS (forBody (nthS (defBody (topS 39)) 2)) 0)) 1)) (gs.map PV.int) [.val (.int a), .val (.int b), .val L, .own (seen.map PV.bl), .val (.int many), .val (.int y), s6] (.nx [.val (.int a), .val (.int b), .val L, .own ((gin a y gs seen).map PV.bl), .val (.int many), .val (.int y), s6']) := by
    intro L many y gs
    induction gs with
    | nil => exact fun seen s6 _ _ _ => ⟨s6, .nil⟩
    | cons f gs ih =>
      intro seen s6 h1 h2 h3
      have q1 := Int.emod_nonneg (f * y) (show a ≠ 0 by omega)
      have q2 := Int.emod_lt_of_pos (f * y) ha
      obtain ⟨s6', hL⟩ := ih (seen.set (f * y % a).toNat true) (.val (.int f)) h1 h2 (by rw [List.length_set]; exact h3)
      refine ⟨s6', .next trivial (ss_one (SV.to (sv_setAt (n := 3) (m := (f * y % a).toNat) rfl (.inl rfl) rfl ev_bl (ev_mod (ev_toint (ev_mul (v 6) (v 5) (.inr (by omega))) bt.int) (v 0) ha) (by omega) (by rw [List.length_map]; omega)) ?_)) hL⟩
      rw [List.map_set]
      rfl
  have loop : ∀ (ys : List Int) (seen : List Bool) (many : Int) (s5 s6 : Sl), (∀ y ∈ ys, 0 ≤ y ∧ y < a) → seen.length = a.toNat → ∃ (s5' s6' : Sl) (seen' : List Bool), LoopV (gam P w K mg base nLGr (topS 39) 2 true) (.one 5) (forBody (nthS (defBody (topS 39)) 2)) (ys.map PV.int) [.val (.int a), .val (.int b), .val (.lst (fs.map PV.int)), .own (seen.map PV.bl), .val (.int many), s5, s6] (.nx [.val (.int a), .val (.int b), .val (.lst (fs.map PV.int)), .own (seen'.map PV.bl), .val (.int (ys.foldl (fun st y => gstep a fs y st) (seen, many)).2), s5', s6']) := by
    intro ys
    induction ys with
    | nil => exact fun seen many s5 s6 _ _ => ⟨s5, s6, seen, .nil⟩
    | cons y ys ih =>
      intro seen many s5 s6 hy hs
      have h1 := hy y List.mem_cons_self
      have hys : ∀ y ∈ ys, 0 ≤ y ∧ y < a := fun q hq => hy q (List.mem_cons_of_mem _ hq)
      have hget := map_get (f := PV.bl) (xs := seen) (i := y.toNat) (by omega) false
      cases hz : seen.getD y.toNat false with
      | true =>
        obtain ⟨s5', s6', seen', hL⟩ := ih seen many (.val (.int y)) s6 hys hs
        rw [hz] at hget
        refine ⟨s5', s6', seen', ?_⟩
        rw [List.foldl_cons, show gstep a fs y (seen, many) = (seen, many) from if_pos hz]
        exact .next trivial (ss_one (sv_if_f (tv_not_t (tv_val (ev_ixL (n := y.toNat) (lo 3) (v 5) (by omega) hget))) ss_nil)) hL
      | false =>
        rw [hz] at hget
        obtain ⟨t6, hI⟩ := inner (.lst (fs.map PV.int)) (many + 1) y fs seen s6 h1.1 (by omega) hs
        obtain ⟨s5', s6', seen', hL⟩ := ih (gin a y fs seen) (many + 1) (.val (.int y)) t6 hys (by rw [gin_len]; exact hs)
        refine ⟨s5', s6', seen', ?_⟩
        rw [List.foldl_cons, show gstep a fs y (seen, many) = (gin a y fs seen, many + 1) from if_neg (by show ¬ (seen.getD y.toNat false = true); rw [hz]; decide)]
        exact .next trivial (ss_one (sv_if_t (tv_not_f (tv_val (ev_ixL (n := y.toNat) (lo 3) (v 5) (by omega) hget))) (ss_cons (sv_set (n := 4) rfl (.inl rfl) (ev_add (v 4) ev_int)) (ss_one (sv_for rfl (iv_list (v 2)) (bv_one rfl (.inl rfl)) hI))))) hL
  obtain ⟨s5', s6', seen', hL⟩ := loop (unitsL a) (List.replicate a.toNat false) 0 .no .no (fun y hy => mem_units hy) List.length_replicate
  have hub := units_len b
  refine ⟨_, .rt, ss_cons (sv_own (n := 3) (xs := (List.replicate a.toNat false).map PV.bl) rfl (.inl rfl) (NV.to (nv_rep (nv_lst (av_cons ev_bl av_nil) (show 1 ≤ 100000 by decide)) (v 0) (by omega) (by omega) ?_) ?_)) (ss_cons (sv_set (n := 4) rfl (.inl rfl) ev_int) (ss_cons (sv_for rfl (iv_list (ev_call F rfl (Nat.le_refl 2) (av_cons (v 0) av_nil) ⟨a, by omega, ha2, rfl, rfl⟩ rfl)) (bv_one rfl (.inl rfl)) hL) (ss_one (sv_ret (EV.to (ev_mul (v 4) (ev_len (qv_l (lv_val (ev_call F rfl (Nat.le_refl 2) (av_cons (v 1) av_nil) ⟨b, hb, hb2, rfl, rfl⟩ rfl))) bt.len) (.inr ?_)) ?_)))))⟩
  · show 1 * a.toNat ≤ 100000
    omega
  · generalize a.toNat = k
    induction k with
    | zero => rfl
    | succ k ih =>
      rw [List.replicate_succ, List.replicate_succ, List.flatten_cons, ih]
      rfl
  · rw [List.length_map]
    omega
  · rw [List.length_map]
    rfl
end
end K12

namespace K12
open PySem PySem.Spec PyProof.Rows L2 VL
abbrev nLP : List Str := ["_law_world_here", "_law_factors_here", "_law_made", "_law_a", "_law_edge_here", "_law_b"]
abbrev pLP : List Str := ["_law_world_here", "_law_factors_here"]
theorem scLP : FnScope nLP pLP (defScope (topS 40)) := ⟨rfl, rfl, rfl, by decide +kernel, rfl, by decide +kernel, by decide +kernel⟩
abbrev nAsk : List Str := ["_law_which", "_law_world_here", "_law_pair"]
abbrev pAsk : List Str := ["_law_which", "_law_world_here", "_law_pair"]
theorem scAsk : FnScope nAsk pAsk (defScope (topS 41)) := ⟨rfl, rfl, rfl, by decide +kernel, rfl, by decide +kernel, by decide +kernel⟩
abbrev nRef : List Str := ["_law_which", "_law_world_here", "_law_pair", "e"]
abbrev pRef : List Str := ["_law_which", "_law_world_here", "_law_pair"]
theorem scRef : FnScope nRef pRef (defScope (topS 42)) := ⟨rfl, rfl, rfl, by decide +kernel, rfl, by decide +kernel, by decide +kernel⟩

theorem flat_app {α β : Type} (f : α → List β) (x : α) (xs : List α) : (x :: xs).flatMap f = f x ++ xs.flatMap f := List.flatMap_cons
theorem lawRow_len (n : Int) (fs : List Int) (a : Int) : (lawRow n fs a).length ≤ fs.length := by
  unfold lawRow
  rw [List.length_map]
  refine Nat.le_trans (List.length_filter_le _ _) ?_
  rw [span_len]
  omega
section
variable {P : Program} {w : World} {K : PySem.W.Frag} {mg : Str → Option Value} {base : Heap} {C : Addr}

abbrev R_lpieces : Rel := fun args r => ∃ (c : Clk) (fs : List Int), OKc c ∧ fs.length < 64 ∧ args = [clkV c, .lst (fs.map PV.int)] ∧ r = .ok (.lst ((lawPieces c.1 fs).map pr))
theorem fn_lpieces (A : At K mg "_law_pieces" 40 pLP) (bt : Bt mg) (F1 : FnV P w K mg base 1 "_law_edge" pLEdge R_ledge) (F2 : FnV P w K mg base 1 "_law_common" pCom R_com) : FnV P w K mg base 2 "_law_pieces" pLP R_lpieces := by
  refine fn_at A scLP fun args r h hl => ?_
  obtain ⟨c, fs, hc, hf, rfl, rfl⟩ := h
  have c1 := hc.b1; have c2 := hc.b2
  have hle : ∀ a, 0 ≤ lawEdge a fs ∧ lawEdge a fs ≤ 100 := fun a => by
    have := distinct_len (fs.map fun f => f % a)
    rw [List.length_map] at this
    unfold lawEdge
    omega
  have inner : ∀ (a : Int) (bs : List Int) (made : List (Int × Int)) (s5 : Sl), (∀ b ∈ bs, 1 ≤ b ∧ b ≤ 64) → made.length + bs.length ≤ 10000 → ∃ s5' : Sl, LoopV (gam P w K mg base nLP (topS 40) 1 true) (.one 5) (forBody (nthS (forBody (nthS (forBody (nthS (defBody (topS 40)) 1)) 0)) 1)) (bs.map PV.int) [.val (clkV c), .val (.lst (fs.map PV.int)), .own (made.map pr), .val (.int a), .val (.int (lawEdge a fs)), s5] (.nx [.val (clkV c), .val (.lst (fs.map PV.int)), .own ((made ++ (bs.filter (lawT fs a)).map fun b => (a, b)).map pr), .val (.int a), .val (.int (lawEdge a fs)), s5']) := by
    intro a bs
    induction bs with
    | nil =>
      intro made s5 _ _
      refine ⟨s5, ?_⟩
      simp only [List.filter_nil, List.map_nil, List.append_nil]
      exact .nil
    | cons b bs ih =>
      intro made s5 hb hlen
      have h1 := hb b List.mem_cons_self
      have hbs : ∀ b ∈ bs, 1 ≤ b ∧ b ≤ 64 := fun q hq => hb q (List.mem_cons_of_mem _ hq)
      have hl2 := hle a
      simp only [List.length_cons] at hlen
      have elen : (((fs.map PV.int).length : Nat) : Int) = (fs.length : Int) := by rw [List.length_map]
      have test : ∀ u, lawT fs a b = u → TV (gam P w K mg base nLP (topS 40) 1 true) [.val (clkV c), .val (.lst (fs.map PV.int)), .own (made.map pr), .val (.int a), .val (.int (lawEdge a fs)), .val (.int b)] (match nthS (forBody (nthS (forBody (nthS (forBody (nthS (defBody (topS 40)) 1)) 0)) 1)) 0 with | .If e _ _ _ => e | _ => .Constant .none 0 ⟨0, 0, 0, 0⟩) u := by
        intro u hu
        subst hu
        exact tv_w (wv_and (TV.to (cv_eqi (ev_mod (ev_len (qv_l (lv_val (v 1))) bt.len) (v 5) (by omega)) ev_int).tv (by rw [elen])) fun _ => wv_and1 (cv_eqi (ev_call F2 rfl (Nat.le_refl 1) (av_cons (v 5) (av_cons (v 4) av_nil)) ⟨b.toNat, (lawEdge a fs).toNat, by omega, by omega, by rw [Int.toNat_of_nonneg (show 0 ≤ b by omega), Int.toNat_of_nonneg hl2.1], rfl⟩ rfl) ev_int).tv)
      cases hz : lawT fs a b with
      | true =>
        obtain ⟨s5', hL⟩ := ih (made ++ [(a, b)]) (.val (.int b)) hbs (by rw [List.length_append, List.length_singleton]; omega)
        refine ⟨s5', ?_⟩
        rw [List.filter_cons_of_pos hz, show made ++ ((b :: bs.filter (lawT fs a)).map fun b => (a, b)) = made ++ [(a, b)] ++ ((bs.filter (lawT fs a)).map fun b => (a, b)) by simp]
        refine .next trivial (ss_one (sv_if_t (test _ hz) (ss_one (SV.to (sv_append (n := 2) rfl (.inl rfl) rfl (ev_tup (av_cons (v 3) (av_cons (v 5) av_nil)) (show 2 ≤ 100000 by decide)) (by rw [List.length_map]; omega)) ?_)))) hL
        rw [List.map_append]
        rfl
      | false =>
        obtain ⟨s5', hL⟩ := ih made (.val (.int b)) hbs (by omega)
        refine ⟨s5', ?_⟩
        rw [List.filter_cons_of_neg (by rw [hz]; decide)]
        exact .next trivial (ss_one (sv_if_f (test _ hz) ss_nil)) hL
  have loop : ∀ (as : List Int) (made : List (Int × Int)) (s3 s4 s5 : Sl), (∀ a ∈ as, 1 ≤ a ∧ a ≤ 60) → made.length + as.length * 64 ≤ 10000 → ∃ s3' s4' s5' : Sl, LoopV (gam P w K mg base nLP (topS 40) 1 true) (.one 3) (forBody (nthS (defBody (topS 40)) 1)) (as.map PV.int) [.val (clkV c), .val (.lst (fs.map PV.int)), .own (made.map pr), s3, s4, s5] (.nx [.val (clkV c), .val (.lst (fs.map PV.int)), .own ((made ++ as.flatMap fun a => if c.1 % a = 0 then lawRow c.1 fs a else []).map pr), s3', s4', s5']) := by
    intro as
    induction as with
    | nil =>
      intro made s3 s4 s5 _ _
      refine ⟨s3, s4, s5, ?_⟩
      rw [List.flatMap_nil, List.append_nil]
      exact .nil
    | cons a as ih =>
      intro made s3 s4 s5 ha hlen
      have h1 := ha a List.mem_cons_self
      have has : ∀ a ∈ as, 1 ≤ a ∧ a ≤ 60 := fun q hq => ha q (List.mem_cons_of_mem _ hq)
      simp only [List.length_cons] at hlen
      rw [List.flatMap_cons, ← List.append_assoc]
      have test : ∀ u, decide (c.1 % a = 0) = u → TV (gam P w K mg base nLP (topS 40) 1 true) [.val (clkV c), .val (.lst (fs.map PV.int)), .own (made.map pr), .val (.int a), s4, s5] (match nthS (forBody (nthS (defBody (topS 40)) 1)) 0 with | .If e _ _ _ => e | _ => .Constant .none 0 ⟨0, 0, 0, 0⟩) u := by
        intro u hu
        subst hu
        exact (cv_eqi (ev_mod (ev_toint (ev_ixT (n := 0) (v 0) ev_int rfl rfl) bt.int) (v 3) (by omega)) ev_int).tv
      by_cases hz : c.1 % a = 0
      · have hrl := lawRow_len c.1 fs a
        obtain ⟨t5, hI⟩ := inner a (span 1 ((fs.length : Int) + 1)) made s5 (fun b hb => by have := mem_span.mp hb; omega) (by rw [span_len]; omega)
        obtain ⟨s3', s4', s5', hL⟩ := ih (made ++ lawRow c.1 fs a) (.val (.int a)) (.val (.int (lawEdge a fs))) t5 has (by rw [List.length_append]; omega)
        refine ⟨s3', s4', s5', ?_⟩
        rw [if_pos hz]
        refine .next trivial (ss_one (sv_if_t (test _ (decide_eq_true hz)) (ss_cons (sv_set (n := 4) rfl (.inl rfl) (ev_call F1 rfl (Nat.le_refl 1) (av_cons (v 3) (av_cons (v 1) av_nil)) ⟨a, fs, by omega, hf, rfl, rfl⟩ rfl)) (ss_one (sv_for rfl (IV.to (iv_rng2 ev_int (ev_add (ev_len (qv_l (lv_val (v 1))) bt.len) ev_int) ?_ bt.range) ?_) (bv_one rfl (.inl rfl)) hI))))) hL
        · rw [List.length_map]; omega
        · rw [List.length_map]
          exact rng_span2 _ _
      · obtain ⟨s3', s4', s5', hL⟩ := ih made (.val (.int a)) s4 s5 has (by omega)
        refine ⟨s3', s4', s5', ?_⟩
        rw [if_neg hz, List.append_nil]
        exact .next trivial (ss_one (sv_if_f (test _ (decide_eq_false hz)) ss_nil)) hL
  obtain ⟨s3, s4, s5, hL⟩ := loop (span 1 (c.1 + 1)) [] .no .no .no (fun a ha => by have := mem_span.mp ha; omega) (by rw [span_len]; simp; omega)
  rw [List.nil_append] at hL
  exact ⟨_, .rt, ss_cons (sv_own (n := 2) rfl (.inl rfl) (nv_lst av_nil (by decide))) (ss_cons (sv_for rfl (IV.to (iv_rng2 ev_int (ev_add (ev_ixT (n := 0) (v 0) ev_int rfl rfl) ev_int) (by omega) bt.range) (rng_span2 _ _)) (bv_one rfl (.inl rfl)) hL) (ss_freeze (n := 2) rfl (ss_one (sv_ret (v 2)))))⟩
/-! ### refusals -/
abbrev R_lasked (C : Addr) : Rel := fun args r => ∃ (q : Int) (c : Clk) (p : PV), 0 ≤ q ∧ q < 4 ∧ OKc c ∧ Fine p ∧ isPieceV c p = false ∧ args = [.int q, clkV c, p] ∧ r = badR C "piece"
theorem fn_lasked (A : At K mg "_law_asked" 41 pAsk) (F1 : FnV P w K mg base 5 "edge_at" nAt (R_ask C fEdge)) (F2 : FnV P w K mg base 6 "grain_at" nAt (R_ask C fGrain)) (F3 : FnV P w K mg base 5 "width_at" nAt (R_ask C fWidth)) (F4 : FnV P w K mg base 5 "pieces_under" nAt (R_ask C fUnder)) : FnV P w K mg base 7 "_law_asked" pAsk (R_lasked C) := by
  refine fn_at A scAsk fun args r h hl => ?_
  obtain ⟨q, c, p, q0, q4, hc, hp, hno, rfl, rfl⟩ := h
  refine ⟨.xc (start0 nAsk.length [.int q, clkV c, p]) C ["at", "word"] [.int (-1), .str "piece"], .xc, ?_⟩
  by_cases h0 : q = 0
  · exact ss_stop (sv_if_t (TV.to (cv_eqi (v 0) ev_int).tv (decide_eq_true h0)) (ss_one (sv_retX (ex_call F1 rfl (show (5:Nat) ≤ 6 by decide) (av_cons (v 1) (av_cons (v 2) av_nil)) ⟨c, p, hc, hp, rfl, .inr ⟨hno, rfl⟩⟩ rfl))))
  · refine ss_cons (sv_if_f (TV.to (cv_eqi (v 0) ev_int).tv (decide_eq_false h0)) ss_nil) ?_
    by_cases h1 : q = 1
    · exact ss_stop (sv_if_t (TV.to (cv_eqi (v 0) ev_int).tv (decide_eq_true h1)) (ss_one (sv_retX (ex_call F2 rfl (Nat.le_refl 6) (av_cons (v 1) (av_cons (v 2) av_nil)) ⟨c, p, hc, hp, rfl, .inr ⟨hno, rfl⟩⟩ rfl))))
    · refine ss_cons (sv_if_f (TV.to (cv_eqi (v 0) ev_int).tv (decide_eq_false h1)) ss_nil) ?_
      by_cases h2 : q = 2
      · exact ss_stop (sv_if_t (TV.to (cv_eqi (v 0) ev_int).tv (decide_eq_true h2)) (ss_one (sv_retX (ex_call F3 rfl (show (5:Nat) ≤ 6 by decide) (av_cons (v 1) (av_cons (v 2) av_nil)) ⟨c, p, hc, hp, rfl, .inr ⟨hno, rfl⟩⟩ rfl))))
      · exact ss_cons (sv_if_f (TV.to (cv_eqi (v 0) ev_int).tv (decide_eq_false h2)) ss_nil) (ss_one (sv_retX (ex_call F4 rfl (show (5:Nat) ≤ 6 by decide) (av_cons (v 1) (av_cons (v 2) av_nil)) ⟨c, p, hc, hp, rfl, .inr ⟨hno, rfl⟩⟩ rfl)))
structure ErrK (K : PySem.W.Frag) (mg : Str → Option Value) (C D : Addr) : Prop where
  mgC : mg "NotUsable" = some (.ref C)
  mgD : mg "DealError" = some (.ref D)
  exm : PySem.W.exmOne K (.ref C) (.ref C) = some true
  kit : PySem.W.kitOne K (.ref C) (.ref D) = some true
  cc : ExcC K C
  xf : XfC K C
  fw : PySem.W.findIn K (.ref C) "word" = some none
  fa : PySem.W.findIn K (.ref C) "at" = some none
abbrev R_ref : Rel := fun args r => ∃ (q : Int) (c : Clk) (p : PV), 0 ≤ q ∧ q < 4 ∧ OKc c ∧ Fine p ∧ isPieceV c p = false ∧ args = [.int q, clkV c, p] ∧ r = .ok (.bl true)
theorem two_zip (ws : List V) (h : ws.length = 2) : ((["at", "word"] : List Str).zip ws).lookup ("at" : Str) = ws[0]? ∧ ((["at", "word"] : List Str).zip ws).lookup ("word" : Str) = ws[1]? := by
  match ws, h with
  | [x, y], _ => exact ⟨rfl, rfl⟩
theorem fn_ref {D : Addr} (A : At K mg "_law_refuses" 42 pRef) (bt : Bt mg) (E : ErrK K mg C D) (F : FnV P w K mg base 7 "_law_asked" pAsk (R_lasked C)) (FH : FnVH P w K mg base 1 "_law_same" pSame (fun args r => ∃ i : Int, args = [.int i, .int i] ∧ r = .ok (.bl true))) : FnV P w K mg base 8 "_law_refuses" pRef R_ref := by
  refine fn_at A scRef fun args r h hl => ?_
  obtain ⟨q, c, p, q0, q4, hc, hp, hno, rfl, rfl⟩ := h
  refine ⟨_, .rt, ss_stop (sv_try_xc (D0 := C) (i := 3) rfl (fun _ => trivial) rfl rfl E.mgC rfl (by decide) (ss_one (sv_exprX (ex_call F rfl (Nat.le_refl 7) (av_cons (v 0) (av_cons (v 1) (av_cons (v 2) av_nil))) ⟨q, c, p, q0, q4, hc, hp, hno, rfl, rfl⟩ rfl))) E.exm fun a d => ?_)⟩
  refine ss_one (sv_ret ?_)
  refine ev_and_t (ev_isErr (D0 := D) (i := 3) E.cc E.kit bt.isinstance E.mgD rfl (.inl rfl) rfl) (ev_and_t (EV.to (cv_eqs (ev_field (ns := ["at", "word"]) (xs := [.int (-1), .str "piece"]) (i := 3) (j := 1) E.xf E.fw rfl (.inl rfl) rfl (fun ws h => (two_zip ws h).2) rfl (show 1 < 2 by decide)) ev_str).ev (congrArg PV.bl (decide_eq_true rfl))) (ev_one ?_))
  exact ev_callH FH rfl (show (1:Nat) ≤ 7 by decide) (av_cons (ev_field (ns := ["at", "word"]) (xs := [.int (-1), .str "piece"]) (i := 3) (j := 0) E.xf E.fa rfl (.inl rfl) rfl (fun ws h => (two_zip ws h).1) rfl (show 0 < 2 by decide)) (av_cons (ev_neg ev_int) av_nil)) ⟨-1, rfl, rfl⟩ rfl
end
end K12

namespace K12
open PySem PySem.Spec PyProof.Rows L2 VL
abbrev nHand : List Str := ["_law_which", "_law_scenes", "_law_world_here", "_law_pairs", "_law_edges", "_law_grains", "_law_widths", "_law_k"]
abbrev pHand : List Str := ["_law_which"]
theorem scHand : FnScope nHand pHand (defScope (topS 43)) := ⟨rfl, rfl, rfl, by decide +kernel, rfl, by decide +kernel, by decide +kernel⟩

theorem mem_pieces {c : Clk} {z : Int × Int} (h : z ∈ piecesOf c) : PieceAt c z.1 z.2 ∧ isPieceV c (pr z) = true := by
  obtain ⟨h1, h2⟩ := List.mem_filter.mp h
  obtain ⟨⟨a1, a2, a3⟩, b1, b2, b3⟩ := mem_pairs h1
  exact ⟨⟨a1, a2, a3, b1, b2, b3⟩, h2⟩
theorem pieces_mem {c : Clk} {z : Int × Int} (h : isPieceV c (pr z) = true) : z ∈ piecesOf c := by
  obtain ⟨a, b, e, q⟩ := piece_shape h
  have e' : z = (a, b) := by
    unfold pr at e
    injection e with e
    injection e with e1 e2
    injection e1 with e1
    injection e2 with e2 _
    injection e2 with e2
    exact Prod.ext e1 e2
  subst e'
  refine List.mem_filter.mpr ⟨List.mem_flatMap.mpr ⟨a, mem_divs.mpr ⟨⟨q.a1, by have := q.a2; omega⟩, q.a3⟩, List.mem_map.mpr ⟨b, mem_divs.mpr ⟨⟨q.b1, by have := q.b2; omega⟩, q.b3⟩, rfl⟩⟩, h⟩
theorem ask_ok {C : Addr} {f : Clk → Int → Int → PV} {c : Clk} {z : Int × Int} (hc : OKc c) (h : z ∈ piecesOf c) : R_ask C f [clkV c, pr z] (.ok (f c z.1 z.2)) :=
  ⟨c, pr z, hc, fine_pr z, rfl, .inl ⟨z.1, z.2, rfl, (mem_pieces h).1, (mem_pieces h).2, rfl⟩⟩
theorem same_prs {zs : List (Int × Int)} (h : zs.length ≤ 100000) : SameOk 2 (.tup (zs.map pr)) := .tup (fun x hx => by
  obtain ⟨z, _, rfl⟩ := List.mem_map.mp hx
  refine .tup (fun y hy => ?_) (show 2 ≤ 100000 by decide)
  rcases List.mem_cons.mp hy with e | hy
  · subst e; exact .int
  · rcases List.mem_cons.mp hy with e | hy
    · subst e; exact .int
    · cases hy) (by rw [List.length_map]; exact h)
theorem pieces_len {c : Clk} (hc : OKc c) : (piecesOf c).length ≤ 10000 := Nat.le_trans (List.length_filter_le _ _) (pairs_len _ _ (by have := hc.b2; omega) (by have := hc.t2; omega))
/-! ### the scenes told by hand -/
abbrev Scene := Clk × List (Int × Int) × List Int × List Int × List Int
def sceneV (s : Scene) : PV := .tup [clkV s.1, .tup (s.2.1.map pr), .tup (s.2.2.1.map PV.int), .tup (s.2.2.2.1.map PV.int), .tup (s.2.2.2.2.map PV.int)]
def scenes : List Scene := [((15, [(2, 14)]), [(1, 1), (1, 2), (3, 1), (5, 1), (15, 1)], [1, 1, 2, 2, 2], [1, 1, 1, 2, 4], [1, 1, 2, 4, 8]),
  ((7, [(2, 6), (3, 2)]), [(1, 1), (1, 2), (1, 3), (1, 6), (7, 1)], [1, 1, 1, 1, 6], [1, 1, 2, 2, 1], [1, 1, 2, 2, 6]),
  ((5, [(2, 4), (3, 1)]), [(1, 1), (1, 2), (1, 3), (1, 6), (5, 1), (5, 3)], [1, 1, 1, 1, 2, 2], [1, 1, 2, 2, 2, 4], [1, 1, 2, 2, 4, 8]),
  ((10, []), [(1, 1), (2, 1), (5, 1), (10, 1)], [1, 1, 1, 1], [1, 1, 4, 4], [1, 1, 4, 4])]
def widthIn (z : Int × Int) : Int := unitsIn z.1 * unitsIn z.2
def grainIn (c : Clk) (z : Int × Int) : Int := unitsIn z.1 * unitsIn z.2 / edgeIn c z.1
structure SceneOk (s : Scene) : Prop where
  ok : OKc s.1
  ps : s.2.1 = piecesOf s.1
  es : s.2.2.1 = (piecesOf s.1).map fun z => edgeIn s.1 z.1
  gs : s.2.2.2.1 = (piecesOf s.1).map (grainIn s.1)
  ws : s.2.2.2.2 = (piecesOf s.1).map widthIn
  at0 : (piecesOf s.1)[0]? = some (1, 1)
/-! ### what is told of a clock -/
def exT (n : Int) (fs : List Int) (i j : Int) : Bool := decide (((fs.getD (j / n).toNat 0 - 1) * i - (fs.getD (i / n).toNat 0 - 1) * j) % n = 0)
def exRow (n : Int) (fs : List Int) (i : Int) (js : List Int) (s : Int) : Int := js.foldl (fun s j => if exT n fs i j then s + 1 else s) s
def exch (n : Int) (fs : List Int) (m : Int) : Int := (span 0 m).foldl (fun s i => exRow n fs i (span 0 m) s) 0
structure Told (c : Clk) : Prop where
  pe : ∀ z ∈ piecesOf c, edgeIn c z.1 = lawEdge z.1 (facs c)
  pg : ∀ z ∈ piecesOf c, grainIn c z = lawGrain z.1 z.2 (facs c)
  pw : ∀ z ∈ piecesOf c, widthIn z = ((unitsL z.1).length : Int) * ((unitsL z.2).length : Int)
  pu : ∀ z ∈ piecesOf c, pairsOf z.1 z.2 = (piecesOf c).filter fun q => decide (z.1 % q.1 = 0) && decide (z.2 % q.2 = 0)
  se : (piecesOf c).foldl (fun s z => s + edgeIn c z.1 * widthIn z) 0 = c.1 * turnsIn c
  sg : (piecesOf c).foldl (fun s z => s + grainIn c z) 0 * (c.1 * turnsIn c) = exch c.1 (facs c) (c.1 * turnsIn c)
theorem facs_len {c : Clk} (hc : OKc c) : ((facs c).length : Int) = turnsIn c := by
  unfold facs
  rw [facsN_len]
  have := hc.t1
  omega
section
variable {P : Program} {w : World} {K : PySem.W.Frag} {mg : Str → Option Value} {base : Heap} {C : Addr}

abbrev R_hand : Rel := fun args r => ∃ q : Int, 0 ≤ q ∧ q < 4 ∧ args = [.int q] ∧ r = .ok (.bl true)
theorem fn_hand (hS : ∀ q : Nat, q < 4 → SceneOk (scenes.getD q ((1, []), [], [], [], []))) (A : At K mg "_law_hand" 43 pHand) (bt : Bt mg) (FS : FnV P w K mg base 3 "_law_same" pSame (R_same 2))
    (FP : FnVK P w K mg base 5 "pieces_of" ["clock"] ["clock"] false R_pieces) (FE : FnVK P w K mg base 5 "edge_at" nAt ["piece", "clock"] true (R_ask C fEdge)) (FG : FnVK P w K mg base 6 "grain_at" nAt ["piece", "clock"] true (R_ask C fGrain))
    (FW : FnVK P w K mg base 5 "width_at" nAt ["piece", "clock"] true (R_ask C fWidth)) (FU : FnVK P w K mg base 5 "pieces_under" nAt ["piece", "clock"] true (R_ask C fUnder)) : FnV P w K mg base 7 "_law_hand" pHand R_hand := by
  refine fn_at A scHand fun args r h hl => ?_
  obtain ⟨q, q0, q4, rfl, rfl⟩ := h
  have hq : q.toNat < scenes.length := by
    show q.toNat < 4
    omega
  have S := hS q.toNat hq
  have hget := map_get (f := sceneV) hq ((1, []), [], [], [], [])
  generalize hsc : scenes.getD q.toNat ((1, []), [], [], [], []) = s at S hget
  obtain ⟨c, prs, es, gs, ws⟩ := s
  obtain ⟨hc, e1, e2, e3, e4, hat⟩ := S
  dsimp only at e1 e2 e3 e4 hat hc
  subst e1 e2 e3 e4
  have hlen := pieces_len hc
  have h11 : ((1, 1) : Int × Int) ∈ piecesOf c := List.mem_of_getElem? hat
  have same : ∀ i : Int, SameOk 2 (.int i) := fun i => .int
  have loop : ∀ (SC : PV) (ks : List Int) (s7 : Sl), (∀ k ∈ ks, 0 ≤ k ∧ k < ((piecesOf c).length : Int)) → ∃ s7' : Sl, LoopV (gam P w K mg base nHand (topS 43) 6 true) (.one 7) (forBody (nthS (defBody (topS 43)) 3)) (ks.map PV.int)
      [.val (.int q), .val SC, .val (clkV c), .val (.tup ((piecesOf c).map pr)), .val (.tup (((piecesOf c).map fun z => edgeIn c z.1).map PV.int)), .val (.tup (((piecesOf c).map (grainIn c)).map PV.int)), .val (.tup (((piecesOf c).map widthIn).map PV.int)), s7]
      (.nx [.val (.int q), .val SC, .val (clkV c), .val (.tup ((piecesOf c).map pr)), .val (.tup (((piecesOf c).map fun z => edgeIn c z.1).map PV.int)), .val (.tup (((piecesOf c).map (grainIn c)).map PV.int)), .val (.tup (((piecesOf c).map widthIn).map PV.int)), s7']) := by
    intro SC ks
    induction ks with
    | nil => exact fun s7 _ => ⟨s7, .nil⟩
    | cons k ks ih =>
      intro s7 hk
      have h1 := hk k List.mem_cons_self
      obtain ⟨s7', hL⟩ := ih (.val (.int k)) fun q hq => hk q (List.mem_cons_of_mem _ hq)
      have hlt : k.toNat < (piecesOf c).length := by omega
      have hz := getD_mem hlt (0, 0)
      have gp := map_get (f := pr) hlt (0, 0)
      have ge : (((piecesOf c).map fun z => edgeIn c z.1).map PV.int)[k.toNat]? = some (.int (edgeIn c ((piecesOf c).getD k.toNat (0, 0)).1)) := by
        rw [List.map_map]
        exact map_get (f := PV.int ∘ fun z => edgeIn c z.1) hlt (0, 0)
      have gg : (((piecesOf c).map (grainIn c)).map PV.int)[k.toNat]? = some (.int (grainIn c ((piecesOf c).getD k.toNat (0, 0)))) := by
        rw [List.map_map]
        exact map_get (f := PV.int ∘ grainIn c) hlt (0, 0)
      have gw : (((piecesOf c).map widthIn).map PV.int)[k.toNat]? = some (.int (widthIn ((piecesOf c).getD k.toNat (0, 0)))) := by
        rw [List.map_map]
        exact map_get (f := PV.int ∘ widthIn) hlt (0, 0)
      generalize (piecesOf c).getD k.toNat (0, 0) = z at hz gp ge gg gw
      refine ⟨s7', .next trivial (ss_cons (sv_if_f (tv_not_t (tv_val ?_)) ss_nil) (ss_cons (sv_if_f (tv_not_t (tv_val ?_)) ss_nil) (ss_one (sv_if_f (tv_not_t (tv_val ?_)) ss_nil)))) hL⟩
      · exact ev_call FS rfl (show (3:Nat) ≤ 6 by decide) (av_cons (ev_callK (args := [pr z, clkV c]) FE rfl (show (5:Nat) ≤ 6 by decide) (kv_cons (ev_ixT (n := k.toNat) (v 3) (v 7) (by omega) gp) (kv_cons (v 2) kv_nil)) (ask_ok hc hz) rfl rfl) (av_cons (ev_ixT (n := k.toNat) (v 4) (v 7) (by omega) ge) av_nil)) ⟨_, .int, rfl, rfl⟩ rfl
      · exact ev_call FS rfl (show (3:Nat) ≤ 6 by decide) (av_cons (ev_callK (args := [pr z, clkV c]) FG rfl (show (6:Nat) ≤ 6 by decide) (kv_cons (ev_ixT (n := k.toNat) (v 3) (v 7) (by omega) gp) (kv_cons (v 2) kv_nil)) (ask_ok hc hz) rfl rfl) (av_cons (ev_ixT (n := k.toNat) (v 5) (v 7) (by omega) gg) av_nil)) ⟨_, .int, rfl, rfl⟩ rfl
      · exact ev_call FS rfl (show (3:Nat) ≤ 6 by decide) (av_cons (ev_callK (args := [pr z, clkV c]) FW rfl (show (5:Nat) ≤ 6 by decide) (kv_cons (ev_ixT (n := k.toNat) (v 3) (v 7) (by omega) gp) (kv_cons (v 2) kv_nil)) (ask_ok hc hz) rfl rfl) (av_cons (ev_ixT (n := k.toNat) (v 6) (v 7) (by omega) gw) av_nil)) ⟨_, .int, rfl, rfl⟩ rfl
  obtain ⟨s7', hL⟩ := loop (.tup (scenes.map sceneV)) (span 0 ((piecesOf c).length : Int)) .no fun k hk => mem_span.mp hk
  have gp0 : ((piecesOf c).map pr)[0]? = some (pr (1, 1)) := by rw [List.getElem?_map, hat]; rfl
  refine ⟨_, .rt, ss_cons (sv_set (n := 1) (p := .tup (scenes.map sceneV)) rfl (.inl rfl) (ev_const 6 (by decide +kernel))) ?_⟩
  refine ss_cons (SV.to (sv_unpack (ns := [2, 3, 4, 5, 6]) (.cons rfl (.inl rfl) (.inl rfl) (.cons rfl (.inl rfl) (.inl rfl) (.cons rfl (.inl rfl) (.inl rfl) (.cons rfl (.inl rfl) (.inl rfl) (.cons rfl (.inl rfl) (.inl rfl) .nil))))) rfl (ev_ixT (ps := scenes.map sceneV) (n := q.toNat) (v 1) (v 0) (by omega) hget) rfl) (q := .nx [.val (.int q), .val (.tup (scenes.map sceneV)), .val (clkV c), .val (.tup ((piecesOf c).map pr)), .val (.tup (((piecesOf c).map fun z => edgeIn c z.1).map PV.int)), .val (.tup (((piecesOf c).map (grainIn c)).map PV.int)), .val (.tup (((piecesOf c).map widthIn).map PV.int)), .no]) rfl) ?_
  refine ss_cons (sv_if_f (tv_not_t (tv_val (ev_call FS rfl (show (3:Nat) ≤ 6 by decide) (av_cons (ev_callK (args := [clkV c]) FP rfl (show (5:Nat) ≤ 6 by decide) (kv_cons (v 2) kv_nil) ⟨c, hc, rfl, rfl⟩ rfl rfl) (av_cons (v 3) av_nil)) ⟨_, same_prs (by omega), rfl, rfl⟩ rfl))) ss_nil) ?_
  refine ss_cons (sv_for rfl (IV.to (iv_rng1 (ev_len (qv_t (v 3)) bt.len) ?_ ?_ bt.range) ?_) (bv_one rfl (.inl rfl)) hL) ?_
  · rw [List.length_map]; omega
  · rw [List.length_map]; omega
  · rw [List.length_map]; exact rng_span1 _
  · refine ss_one (sv_ret (ev_call FS rfl (show (3:Nat) ≤ 6 by decide) (av_cons (ev_callK (args := [pr (1, 1), clkV c]) FU rfl (show (5:Nat) ≤ 6 by decide) (kv_cons (ev_ixT (n := 0) (v 3) ev_int rfl gp0) (kv_cons (v 2) kv_nil)) (ask_ok hc h11) rfl rfl) (av_cons (ev_const (p := .tup ([((1 : Int), (1 : Int))].map pr)) 3 (by decide +kernel)) av_nil)) ⟨.tup ([((1 : Int), (1 : Int))].map pr), same_prs (by decide), ?_, rfl⟩ rfl))
    rw [show fUnder c 1 1 = .tup ([((1 : Int), (1 : Int))].map pr) from congrArg (fun l => PV.tup (List.map pr l)) (by decide +kernel : pairsOf 1 1 = [(1, 1)])]
end
end K12

namespace K12
open PySem PySem.Spec PyProof.Rows L2 VL
abbrev nTold : List Str := ["_law_world_here", "_law_pairs", "_law_factors_here", "_law_edges", "_law_grains", "_law_a", "_law_b", "_law_edge_here", "_law_grain_here", "_law_width", "_law_under", "_law_beats", "_law_many", "_law_exchanged", "_law_i", "_law_j", "_law_pair"]
abbrev pTold : List Str := ["_law_world_here", "_law_pairs", "_law_factors_here"]
theorem scTold : FnScope nTold pTold (defScope (topS 44)) := ⟨rfl, rfl, rfl, by decide +kernel, rfl, by decide +kernel, by decide +kernel⟩
section
variable {P : Program} {w : World} {K : PySem.W.Frag} {mg : Str → Option Value} {base : Heap} {C : Addr}

theorem units_nn (n : Int) (h0 : 0 ≤ n) (hn : n ≤ 60) : 0 ≤ unitsIn n ∧ unitsIn n ≤ 60 := by
  have := units_bounds n h0 (by omega)
  omega
theorem width_bounds {c : Clk} (hc : OKc c) {z : Int × Int} (hz : z ∈ piecesOf c) : 0 ≤ widthIn z ∧ widthIn z ≤ 3600 := by
  have q := (mem_pieces hz).1
  have a1 := q.a1; have a2 := q.a2; have b1 := q.b1; have b2 := q.b2; have c2 := hc.b2; have t2 := hc.t2
  have u1 := units_nn z.1 (by omega) (by omega)
  have u2 := units_nn z.2 (by omega) (by omega)
  have m1 := Int.mul_le_mul u1.2 u2.2 u2.1 (by omega)
  exact ⟨Int.mul_nonneg u1.1 u2.1, by unfold widthIn; omega⟩
abbrev R_told : Rel := fun args r => ∃ c : Clk, OKc c ∧ Told c ∧ args = [clkV c, .lst ((piecesOf c).map pr), .lst ((facs c).map PV.int)] ∧ r = .ok (.bl true)
theorem fn_told (A : At K mg "_law_told" 44 pTold) (bt : Bt mg) (FS : FnV P w K mg base 3 "_law_same" pSame (R_same 2))
    (FE : FnV P w K mg base 5 "edge_at" nAt (R_ask C fEdge)) (FG : FnV P w K mg base 6 "grain_at" nAt (R_ask C fGrain)) (FW : FnV P w K mg base 5 "width_at" nAt (R_ask C fWidth)) (FU : FnV P w K mg base 5 "pieces_under" nAt (R_ask C fUnder))
    (LE : FnV P w K mg base 1 "_law_edge" pLEdge R_ledge) (LG : FnV P w K mg base 3 "_law_grain" pLGr R_lgrain) (LU : FnV P w K mg base 2 "_law_units" pUnL R_unitsL) : FnV P w K mg base 7 "_law_told" pTold R_told := by
  refine fn_at A scTold fun args r h hl => ?_
  obtain ⟨c, hc, T, rfl, rfl⟩ := h
  have c1 := hc.b1; have c2 := hc.b2; have t1 := hc.t1; have t2 := hc.t2
  have hfl := facs_len hc
  have hplen := pieces_len hc
  have fsl : (facs c).length < 64 := by omega
  have loop : ∀ (zs : List (Int × Int)) (se sg : Int) (s5 s6 s7 s8 s9 s10 : Sl), (∀ z ∈ zs, z ∈ piecesOf c) → ∃ s5' s6' s7' s8' s9' s10' : Sl, LoopV (gam P w K mg base nTold (topS 44) 6 true) (.many [5, 6]) (forBody (nthS (defBody (topS 44)) 2)) (zs.map pr)
      [.val (clkV c), .val (.lst ((piecesOf c).map pr)), .val (.lst ((facs c).map PV.int)), .val (.int se), .val (.int sg), s5, s6, s7, s8, s9, s10, .no, .no, .no, .no, .no, .no]
      (.nx [.val (clkV c), .val (.lst ((piecesOf c).map pr)), .val (.lst ((facs c).map PV.int)), .val (.int (zs.foldl (fun s z => s + edgeIn c z.1 * widthIn z) se)), .val (.int (zs.foldl (fun s z => s + grainIn c z) sg)), s5', s6', s7', s8', s9', s10', .no, .no, .no, .no, .no, .no]) := by
    intro zs
    induction zs with
    | nil => exact fun se sg s5 s6 s7 s8 s9 s10 _ => ⟨s5, s6, s7, s8, s9, s10, .nil⟩
    | cons z zs ih =>
      intro se sg s5 s6 s7 s8 s9 s10 hzs
      have hz := hzs z List.mem_cons_self
      have q := (mem_pieces hz).1
      have a1 := q.a1; have a2 := q.a2; have b1 := q.b1; have b2 := q.b2
      have hw := width_bounds hc hz
      have he := edge_bounds hc z.1
      have lu1 := units_len z.1
      have lu2 := units_len z.2
      obtain ⟨s5', s6', s7', s8', s9', s10', hL⟩ := ih (se + edgeIn c z.1 * widthIn z) (sg + grainIn c z) (.val (.int z.1)) (.val (.int z.2)) (.val (.int (edgeIn c z.1))) (.val (.int (grainIn c z))) (.val (.int (widthIn z))) (.val (.lst ((pairsOf z.1 z.2).map pr))) fun x hx => hzs x (List.mem_cons_of_mem _ hx)
      refine ⟨s5', s6', s7', s8', s9', s10', .next rfl ?_ hL⟩
      have ab : ∀ ρ : List Sl, ρ[5]? = some (.val (.int z.1)) → ρ[6]? = some (.val (.int z.2)) → EV (gam P w K mg base nTold (topS 44) 6 true) ρ (.Tuple [.Name "_law_a" ⟨0, 0, 0, 0⟩, .Name "_law_b" ⟨0, 0, 0, 0⟩] 0 ⟨0, 0, 0, 0⟩) (pr z) := fun ρ h1 h2 => ev_tup (av_cons (v 5 (h := h1)) (av_cons (v 6 (h := h2)) av_nil)) (show 2 ≤ 100000 by decide)
      refine ss_cons (sv_set (n := 7) (p := .int (edgeIn c z.1)) rfl (.inl rfl) (ev_call FE rfl (show (5:Nat) ≤ 6 by decide) (av_cons (v 0) (av_cons (ev_tup (av_cons (v 5) (av_cons (v 6) av_nil)) (show 2 ≤ 100000 by decide)) av_nil)) (ask_ok hc hz) rfl)) ?_
      refine ss_cons (sv_set (n := 8) (p := .int (grainIn c z)) rfl (.inl rfl) (ev_call FG rfl (Nat.le_refl 6) (av_cons (v 0) (av_cons (ev_tup (av_cons (v 5) (av_cons (v 6) av_nil)) (show 2 ≤ 100000 by decide)) av_nil)) (ask_ok hc hz) rfl)) ?_
      refine ss_cons (sv_set (n := 9) (p := .int (widthIn z)) rfl (.inl rfl) (ev_call FW rfl (show (5:Nat) ≤ 6 by decide) (av_cons (v 0) (av_cons (ev_tup (av_cons (v 5) (av_cons (v 6) av_nil)) (show 2 ≤ 100000 by decide)) av_nil)) (ask_ok hc hz) rfl)) ?_
      refine ss_cons (sv_if_f (tv_w (wv_or_f (tv_not_t (tv_val (ev_call FS rfl (show (3:Nat) ≤ 6 by decide) (av_cons (v 7) (av_cons (ev_call LE rfl (show (1:Nat) ≤ 6 by decide) (av_cons (v 5) (av_cons (v 2) av_nil)) ⟨z.1, facs c, by omega, fsl, rfl, congrArg (fun x => Res.ok (PV.int x)) (T.pe z hz)⟩ rfl) av_nil)) ⟨_, .int, rfl, rfl⟩ rfl))) (wv_or1 (tv_not_t (tv_val (ev_call FS rfl (show (3:Nat) ≤ 6 by decide) (av_cons (v 8) (av_cons (ev_call LG rfl (show (3:Nat) ≤ 6 by decide) (av_cons (v 5) (av_cons (v 6) (av_cons (v 2) av_nil))) ⟨z.1, z.2, facs c, by omega, by omega, by omega, by omega, rfl, congrArg (fun x => Res.ok (PV.int x)) (T.pg z hz)⟩ rfl) av_nil)) ⟨_, .int, rfl, rfl⟩ rfl)))))) ss_nil) ?_
      refine ss_cons (sv_if_f (tv_not_t (tv_val (ev_call FS rfl (show (3:Nat) ≤ 6 by decide) (av_cons (v 9) (av_cons (EV.to (q := .int (widthIn z)) (ev_mul (ev_len (qv_l (lv_val (ev_call LU rfl (show (2:Nat) ≤ 6 by decide) (av_cons (v 5) av_nil) ⟨z.1, by omega, by omega, rfl, rfl⟩ rfl))) bt.len) (ev_len (qv_l (lv_val (ev_call LU rfl (show (2:Nat) ≤ 6 by decide) (av_cons (v 6) av_nil) ⟨z.2, by omega, by omega, rfl, rfl⟩ rfl))) bt.len) (.inr ?_)) ?_) av_nil)) ⟨_, .int, rfl, rfl⟩ rfl))) ss_nil) ?_
      · rw [List.length_map]; omega
      · rw [List.length_map, List.length_map, T.pw z hz]
      · refine ss_own_val (n := 10) (xs := (pairsOf z.1 z.2).map pr) (SV.to (sv_lcM (n := 10) [("_law_pair", 16)] (.one 16) pr (piecesOf c) (fun q => decide (z.1 % q.1 = 0) && decide (z.2 % q.2 = 0)) pr rfl rfl rfl rfl (by decide +kernel) rfl ?_ ?_ ?_ ?_ ?_ fun x hx => ⟨trivial, tvs_one ?_, fun _ => v 16⟩) ?_) (show 10 < 17 by decide) ?_
        · exact iv_list (v 1)
        · omega
        · exact blkOk_by (N := nTold) (sc := defScope (topS 44)) (by decide +kernel)
        · exact bv_one rfl (.inl rfl)
        · decide
        · have qx := (mem_pieces hx).1
          have xa := qx.a1; have xb := qx.b1
          exact tv_w (wv_and (cv_eqi (ev_mod (ev_toint (v 5) bt.int) (ev_ixT (ps := [.int x.1, .int x.2]) (n := 0) (v 16) ev_int rfl rfl) (by omega)) ev_int).tv fun _ => wv_and1 (cv_eqi (ev_mod (ev_toint (v 6) bt.int) (ev_ixT (ps := [.int x.1, .int x.2]) (n := 1) (v 16) ev_int rfl rfl) (by omega)) ev_int).tv)
        · rw [T.pu z hz]
        · refine ss_cons (sv_if_f (tv_not_t (tv_val (ev_call FS rfl (show (3:Nat) ≤ 6 by decide) (av_cons (ev_call FU rfl (show (5:Nat) ≤ 6 by decide) (av_cons (v 0) (av_cons (ev_tup (av_cons (v 5) (av_cons (v 6) av_nil)) (show 2 ≤ 100000 by decide)) av_nil)) (ask_ok hc hz) rfl) (av_cons (ev_totup (qv_l (lv_val (v 10))) bt.tuple) av_nil)) ⟨.tup ((pairsOf z.1 z.2).map pr), same_prs (Nat.le_trans (pairs_len _ _ (by omega) (by omega)) (by omega)), rfl, rfl⟩ rfl))) ss_nil) ?_
          exact ss_cons (sv_set (n := 3) rfl (.inl rfl) (ev_add (v 3) (ev_mul (v 7) (v 9) (.inl (by omega))))) (ss_one (sv_set (n := 4) rfl (.inl rfl) (ev_add (v 4) (v 8))))
  have hm : 0 ≤ c.1 * turnsIn c ∧ c.1 * turnsIn c ≤ 3600 := by
    have := Int.mul_le_mul c2 t2 (by omega) (by omega)
    exact ⟨Int.mul_nonneg (by omega) (by omega), by omega⟩
  have fget : ∀ i : Int, 0 ≤ i → i < c.1 * turnsIn c → (i / c.1).toNat < (facs c).length ∧ 0 ≤ i / c.1 := fun i h0 h1 => by
    have q1 := Int.ediv_nonneg h0 (show 0 ≤ c.1 by omega)
    have q2 := Int.ediv_lt_of_lt_mul (show 0 < c.1 by omega) (show i < turnsIn c * c.1 by rw [Int.mul_comm]; exact h1)
    exact ⟨by omega, q1⟩
  have fbig : ∀ i : Nat, i < (facs c).length → 0 ≤ (facs c).getD i 0 ∧ (facs c).getD i 0 < 60 := fun i h => by
    have := facsN_ok c.1 (stepIn c) c1 (turnsIn c - 1).toNat _ (getD_mem h 0)
    exact ⟨this.1, by omega⟩
  have inner : ∀ (se sg : PV) (s5 s6 s7 s8 s9 s10 : Sl) (i : Int) (js : List Int) (s : Int) (s15 : Sl), 0 ≤ i → i < c.1 * turnsIn c → (∀ j ∈ js, 0 ≤ j ∧ j < c.1 * turnsIn c) → ∃ s15' : Sl, LoopV (gam P w K mg base nTold (topS 44) 6 true) (.one 15) (forBody (nthS (forBody (nthS (defBody (topS 44)) 6)) 0)) (js.map PV.int)
      [.val (clkV c), .val (.lst ((piecesOf c).map pr)), .val (.lst ((facs c).map PV.int)), .val se, .val sg, s5, s6, s7, s8, s9, s10, .val (.int c.1), .val (.int (c.1 * turnsIn c)), .val (.int s), .val (.int i), s15, .no]
      (.nx [.val (clkV c), .val (.lst ((piecesOf c).map pr)), .val (.lst ((facs c).map PV.int)), .val se, .val sg, s5, s6, s7, s8, s9, s10, .val (.int c.1), .val (.int (c.1 * turnsIn c)), .val (.int (exRow c.1 (facs c) i js s)), .val (.int i), s15', .no]) := by
    intro se sg s5 s6 s7 s8 s9 s10 i js
    induction js with
    | nil => exact fun s s15 _ _ _ => ⟨s15, .nil⟩
    | cons j js ih =>
      intro s s15 i0 i1 hj
      have hj1 := hj j List.mem_cons_self
      have hjs : ∀ j ∈ js, 0 ≤ j ∧ j < c.1 * turnsIn c := fun q hq => hj q (List.mem_cons_of_mem _ hq)
      obtain ⟨f1, f2⟩ := fget j hj1.1 hj1.2
      obtain ⟨f3, f4⟩ := fget i i0 i1
      have test : ∀ u, exT c.1 (facs c) i j = u → TV (gam P w K mg base nTold (topS 44) 6 true) [.val (clkV c), .val (.lst ((piecesOf c).map pr)), .val (.lst ((facs c).map PV.int)), .val se, .val sg, s5, s6, s7, s8, s9, s10, .val (.int c.1), .val (.int (c.1 * turnsIn c)), .val (.int s), .val (.int i), .val (.int j), .no] (match nthS (forBody (nthS (forBody (nthS (defBody (topS 44)) 6)) 0)) 0 with | .If e _ _ _ => e | _ => .Constant .none 0 ⟨0, 0, 0, 0⟩) u := by
        intro u hu
        subst hu
        exact (cv_eqi (ev_mod (ev_toint (ev_sub (ev_mul (ev_sub (ev_ixL (n := (j / c.1).toNat) (lv_val (v 2)) (ev_fdiv (v 15) (v 11) ⟨by omega, by omega⟩) (by omega) (map_get f1 0)) ev_int) (v 14) (.inr (by omega))) (ev_mul (ev_sub (ev_ixL (n := (i / c.1).toNat) (lv_val (v 2)) (ev_fdiv (v 14) (v 11) ⟨by omega, by omega⟩) (by omega) (map_get f3 0)) ev_int) (v 15) (.inr (by omega)))) bt.int) (v 11) (by omega)) ev_int).tv
      cases hz : exT c.1 (facs c) i j with
      | true =>
        obtain ⟨s15', hL⟩ := ih (s + 1) (.val (.int j)) i0 i1 hjs
        refine ⟨s15', ?_⟩
        rw [show exRow c.1 (facs c) i (j :: js) s = exRow c.1 (facs c) i js (s + 1) by unfold exRow; rw [List.foldl_cons, if_pos hz]]
        exact .next trivial (ss_one (sv_if_t (test _ hz) (ss_one (sv_set (n := 13) rfl (.inl rfl) (ev_add (v 13) ev_int))))) hL
      | false =>
        obtain ⟨s15', hL⟩ := ih s (.val (.int j)) i0 i1 hjs
        refine ⟨s15', ?_⟩
        rw [show exRow c.1 (facs c) i (j :: js) s = exRow c.1 (facs c) i js s by unfold exRow; rw [List.foldl_cons, if_neg (by rw [hz]; decide)]]
        exact .next trivial (ss_one (sv_if_f (test _ hz) ss_nil)) hL
  have outer : ∀ (se sg : PV) (s5 s6 s7 s8 s9 s10 : Sl) (is : List Int) (s : Int) (s14 s15 : Sl), (∀ i ∈ is, 0 ≤ i ∧ i < c.1 * turnsIn c) → ∃ s14' s15' : Sl, LoopV (gam P w K mg base nTold (topS 44) 6 true) (.one 14) (forBody (nthS (defBody (topS 44)) 6)) (is.map PV.int)
      [.val (clkV c), .val (.lst ((piecesOf c).map pr)), .val (.lst ((facs c).map PV.int)), .val se, .val sg, s5, s6, s7, s8, s9, s10, .val (.int c.1), .val (.int (c.1 * turnsIn c)), .val (.int s), s14, s15, .no]
      (.nx [.val (clkV c), .val (.lst ((piecesOf c).map pr)), .val (.lst ((facs c).map PV.int)), .val se, .val sg, s5, s6, s7, s8, s9, s10, .val (.int c.1), .val (.int (c.1 * turnsIn c)), .val (.int (is.foldl (fun s i => exRow c.1 (facs c) i (span 0 (c.1 * turnsIn c)) s) s)), s14', s15', .no]) := by
    intro se sg s5 s6 s7 s8 s9 s10 is
    induction is with
    | nil => exact fun s s14 s15 _ => ⟨s14, s15, .nil⟩
    | cons i is ih =>
      intro s s14 s15 hi
      have hi1 := hi i List.mem_cons_self
      obtain ⟨t15, hI⟩ := inner se sg s5 s6 s7 s8 s9 s10 i (span 0 (c.1 * turnsIn c)) s s15 hi1.1 hi1.2 fun j hj => mem_span.mp hj
      obtain ⟨s14', s15', hL⟩ := ih (exRow c.1 (facs c) i (span 0 (c.1 * turnsIn c)) s) (.val (.int i)) t15 fun q hq => hi q (List.mem_cons_of_mem _ hq)
      exact ⟨s14', s15', .next trivial (ss_one (sv_for rfl (IV.to (iv_rng1 (v 12) (by omega) (by omega) bt.range) (rng_span1 _)) (bv_one rfl (.inl rfl)) hI)) hL⟩
  obtain ⟨s5, s6, s7, s8, s9, s10, hL1⟩ := loop (piecesOf c) 0 0 .no .no .no .no .no .no fun z hz => hz
  obtain ⟨s14, s15, hL2⟩ := outer (.int ((piecesOf c).foldl (fun s z => s + edgeIn c z.1 * widthIn z) 0)) (.int ((piecesOf c).foldl (fun s z => s + grainIn c z) 0)) s5 s6 s7 s8 s9 s10 (span 0 (c.1 * turnsIn c)) 0 .no .no fun i hi => mem_span.mp hi
  refine ⟨_, .rt, ss_cons (sv_set (n := 3) rfl (.inl rfl) ev_int) (ss_cons (sv_set (n := 4) rfl (.inl rfl) ev_int) (ss_cons (sv_for rfl (iv_list (v 1)) (bv_many (.cons rfl (by first | exact .inl rfl | exact .inr rfl) (.inl rfl) (.cons rfl (by first | exact .inl rfl | exact .inr rfl) (.inl rfl) .nil)) rfl) hL1) (ss_cons (sv_set (n := 11) (p := .int c.1) rfl (.inl rfl) (ev_toint (ev_ixT (n := 0) (v 0) ev_int rfl rfl) bt.int)) (ss_cons (sv_set (n := 12) (p := .int (c.1 * turnsIn c)) rfl (.inl rfl) (EV.to (ev_mul (v 11) (ev_len (qv_l (lv_val (v 2))) bt.len) (.inl (by omega))) ?_)) (ss_cons (sv_set (n := 13) rfl (.inl rfl) ev_int) (ss_cons (sv_for rfl (IV.to (iv_rng1 (v 12) (by omega) (by omega) bt.range) (rng_span1 _)) (bv_one rfl (.inl rfl)) hL2) (ss_one (sv_ret ?_))))))))⟩
  · rw [List.length_map, hfl]
  · exact ev_and_t (EV.to (cv_eqi (v 3) (v 12)).ev (congrArg PV.bl (decide_eq_true T.se))) (ev_one (EV.to (cv_eqi (ev_mul (v 4) (v 12) (.inr (by omega))) (v 13)).ev (congrArg PV.bl (decide_eq_true T.sg))))
end
end K12

namespace K12
open PySem PySem.Spec PyProof.Rows L2 VL
abbrev nNear : List Str := ["_law_world_here", "_law_pairs", "_law_turns", "_law_draw", "_law_a", "_law_b", "_law_strange", "_law_k", "_law_which"]
abbrev pNear : List Str := ["_law_world_here", "_law_pairs", "_law_turns", "_law_draw"]
theorem scNear : FnScope nNear pNear (defScope (topS 45)) := ⟨rfl, rfl, rfl, by decide +kernel, rfl, by decide +kernel, by decide +kernel⟩
abbrev nLaw : List Str := ["_law_script", "_law_row", "_law_world_here", "_law_factors_here", "_law_pairs"]
abbrev pLaw : List Str := ["_law_script"]
theorem scLaw : FnScope nLaw pLaw (defScope (topS 46)) := ⟨rfl, rfl, rfl, by decide +kernel, rfl, by decide +kernel, by decide +kernel⟩

def strangeL (a b : Int) : List PV := [.non, .str "1 1", .tup [], .tup [.int a], .tup [.int a, .int b, .int b], .lst [.int a, .int b], .tup [.tup [.int a, .int b]], .tup [.int (-a), .int b], .tup [.int a, .int (-b)], .tup [.bl true, .int 1], .tup [.int 1, .bl true], .tup [.int a, .non], .tup [.str "1", .int b], .tup [.tup [.int a], .int b], .int a, .bl false]
theorem fine_tup {xs : List PV} (h : ∀ x ∈ xs, x.ty ≠ "?") : Fine (.tup xs) := ⟨show ("tuple" : String) ≠ "?" by decide, fun ys e x hx => by
  injection e with e
  subst e
  exact h x hx⟩
theorem fine_of {p : PV} (h : p.ty ≠ "?") (h2 : p.isT = false) : Fine p := ⟨h, fun xs e => by subst e; cases h2⟩
theorem ty_int {i : Int} : (PV.int i).ty ≠ "?" := show ("int" : String) ≠ "?" by decide
theorem ty_tup {xs : List PV} : (PV.tup xs).ty ≠ "?" := show ("tuple" : String) ≠ "?" by decide
theorem ty_bl {x : Bool} : (PV.bl x).ty ≠ "?" := show ("bool" : String) ≠ "?" by decide
theorem ty_str {x : Str} : (PV.str x).ty ≠ "?" := show ("str" : String) ≠ "?" by decide
theorem ty_non : PV.non.ty ≠ "?" := show ("NoneType" : String) ≠ "?" by decide
theorem ty_lst {xs : List PV} : (PV.lst xs).ty ≠ "?" := show ("list" : String) ≠ "?" by decide
theorem all2 {x y : PV} (hx : x.ty ≠ "?") (hy : y.ty ≠ "?") : ∀ z ∈ [x, y], z.ty ≠ "?" := fun z hz => by
  rcases List.mem_cons.mp hz with h | h
  · exact h ▸ hx
  · rw [List.mem_singleton.mp h]; exact hy
theorem neg_div {n a : Int} (h : 1 ≤ a) : isDivV n (.int (-a)) = false := by
  show (decide (1 ≤ -a) && decide (-a ≤ n) && decide (n % -a = 0)) = false
  rw [decide_eq_false (show ¬ 1 ≤ -a by omega), Bool.false_and, Bool.false_and]
theorem strange_ok (c : Clk) {a b : Int} (ha : 1 ≤ a) (hb : 1 ≤ b) : ∀ p ∈ strangeL a b, Fine p ∧ isPieceV c p = false := by
  intro p hp
  simp only [strangeL, List.mem_cons, List.not_mem_nil, or_false] at hp
  rcases hp with h | h | h | h | h | h | h | h | h | h | h | h | h | h | h | h <;> subst h
  · exact ⟨fine_of ty_non rfl, rfl⟩
  · exact ⟨fine_of ty_str rfl, rfl⟩
  · exact ⟨fine_tup (fun x hx => nomatch hx), rfl⟩
  · exact ⟨fine_tup (fun x hx => by rw [List.mem_singleton.mp hx]; exact ty_int), rfl⟩
  · exact ⟨fine_tup (fun x hx => by
      rcases List.mem_cons.mp hx with h | h
      · rw [h]; exact ty_int
      · exact all2 ty_int ty_int x h), rfl⟩
  · exact ⟨fine_of ty_lst rfl, rfl⟩
  · exact ⟨fine_tup (fun x hx => by rw [List.mem_singleton.mp hx]; exact ty_tup), rfl⟩
  · exact ⟨fine_tup (all2 ty_int ty_int), by simp only [isPieceV, neg_div ha, Bool.false_and]⟩
  · exact ⟨fine_tup (all2 ty_int ty_int), by simp only [isPieceV, neg_div hb, Bool.and_false, Bool.false_and]⟩
  · exact ⟨fine_tup (all2 ty_bl ty_int), rfl⟩
  · exact ⟨fine_tup (all2 ty_int ty_bl), by simp only [isPieceV, isDivV, Bool.and_false]⟩
  · exact ⟨fine_tup (all2 ty_int ty_non), by simp only [isPieceV, isDivV, Bool.and_false]⟩
  · exact ⟨fine_tup (all2 ty_str ty_int), rfl⟩
  · exact ⟨fine_tup (all2 ty_tup ty_int), rfl⟩
  · exact ⟨fine_of ty_int rfl, rfl⟩
  · exact ⟨fine_of ty_bl rfl, rfl⟩
section
variable {P : Program} {w : World} {K : PySem.W.Frag} {mg : Str → Option Value} {base : Heap} {C : Addr}

abbrev R_near : Rel := fun args r => ∃ (c : Clk) (d : Int), OKc c ∧ 0 ≤ d ∧ d < 10000 ∧ piecesOf c ≠ [] ∧ args = [clkV c, .lst ((piecesOf c).map pr), .int (turnsIn c), .int d] ∧ r = .ok (.bl true)
theorem fn_near (A : At K mg "_law_near" 45 pNear) (bt : Bt mg) (F : FnV P w K mg base 8 "_law_refuses" pRef R_ref) : FnV P w K mg base 9 "_law_near" pNear R_near := by
  refine fn_at A scNear fun args r h hl => ?_
  obtain ⟨c, d, hc, d0, d1, hne, rfl, rfl⟩ := h
  have c1 := hc.b1; have c2 := hc.b2; have t1 := hc.t1; have t2 := hc.t2
  have inner : ∀ (a : Int) (bs : List Int) (s5 : Sl), ∃ s5' : Sl, LoopV (gam P w K mg base nNear (topS 45) 8 true) (.one 5) (forBody (nthS (forBody (nthS (defBody (topS 45)) 0)) 0)) (bs.map PV.int)
      [.val (clkV c), .val (.lst ((piecesOf c).map pr)), .val (.int (turnsIn c)), .val (.int d), .val (.int a), s5, .no, .no, .no]
      (.nx [.val (clkV c), .val (.lst ((piecesOf c).map pr)), .val (.int (turnsIn c)), .val (.int d), .val (.int a), s5', .no, .no, .no]) := by
    intro a bs
    induction bs with
    | nil => exact fun s5 => ⟨s5, .nil⟩
    | cons b bs ih =>
      intro s5
      obtain ⟨s5', hL⟩ := ih (.val (.int b))
      refine ⟨s5', .next trivial (ss_one (sv_if_f ?_ ss_nil)) hL⟩
      by_cases hz : (a, b) ∈ piecesOf c
      · exact tv_w (wv_and_f (TV.to (cv_notinP (z := (a, b)) (zs := piecesOf c) (ev_tup (av_cons (v 4) (av_cons (v 5) av_nil)) (show 2 ≤ 100000 by decide)) (lv_val (v 1))).tv (by rw [decide_eq_true hz]; rfl)))
      · have hp : isPieceV c (pr (a, b)) = false := by
          cases e : isPieceV c (pr (a, b)) with
          | false => rfl
          | true => exact absurd (pieces_mem e) hz
        refine tv_w (wv_and_t (TV.to (cv_notinP (z := (a, b)) (zs := piecesOf c) (ev_tup (av_cons (v 4) (av_cons (v 5) av_nil)) (show 2 ≤ 100000 by decide)) (lv_val (v 1))).tv (by rw [decide_eq_false hz]; rfl)) (wv_and1 (tv_not_t (tv_val (ev_call F rfl (Nat.le_refl 8) (av_cons (ev_mod (ev_toint (ev_add (ev_add (v 4) (ev_mul ev_int (v 5) (.inl (by omega)))) (v 3)) bt.int) ev_int (by omega)) (av_cons (v 0) (av_cons (ev_tup (av_cons (v 4) (av_cons (v 5) av_nil)) (show 2 ≤ 100000 by decide)) av_nil))) ⟨(a + 3 * b + d) % 4, c, pr (a, b), by omega, by omega, hc, fine_pr _, hp, rfl, rfl⟩ rfl)))))
  have outer : ∀ (as : List Int) (s4 s5 : Sl), ∃ s4' s5' : Sl, LoopV (gam P w K mg base nNear (topS 45) 8 true) (.one 4) (forBody (nthS (defBody (topS 45)) 0)) (as.map PV.int)
      [.val (clkV c), .val (.lst ((piecesOf c).map pr)), .val (.int (turnsIn c)), .val (.int d), s4, s5, .no, .no, .no]
      (.nx [.val (clkV c), .val (.lst ((piecesOf c).map pr)), .val (.int (turnsIn c)), .val (.int d), s4', s5', .no, .no, .no]) := by
    intro as
    induction as with
    | nil => exact fun s4 s5 => ⟨s4, s5, .nil⟩
    | cons a as ih =>
      intro s4 s5
      obtain ⟨t5, hI⟩ := inner a (span 0 (turnsIn c + 2)) s5
      obtain ⟨s4', s5', hL⟩ := ih (.val (.int a)) t5
      exact ⟨s4', s5', .next trivial (ss_one (sv_for rfl (IV.to (iv_rng1 (ev_add (v 2) ev_int) (by omega) (by omega) bt.range) (rng_span1 _)) (bv_one rfl (.inl rfl)) hI)) hL⟩
  have inner2 : ∀ (a b : Int) (p : PV) (k : Int), 1 ≤ a → 1 ≤ b → 0 ≤ k → (strangeL a b)[k.toNat]? = some p → ∀ (qs : List Int) (s8 : Sl), (∀ q ∈ qs, 0 ≤ q ∧ q < 4) → ∃ s8' : Sl, LoopV (gam P w K mg base nNear (topS 45) 8 true) (.one 8) (forBody (nthS (forBody (nthS (defBody (topS 45)) 3)) 0)) (qs.map PV.int)
      [.val (clkV c), .val (.lst ((piecesOf c).map pr)), .val (.int (turnsIn c)), .val (.int d), .val (.int a), .val (.int b), .val (.tup (strangeL a b)), .val (.int k), s8]
      (.nx [.val (clkV c), .val (.lst ((piecesOf c).map pr)), .val (.int (turnsIn c)), .val (.int d), .val (.int a), .val (.int b), .val (.tup (strangeL a b)), .val (.int k), s8']) := by
    intro a b p k a1 b1 k0 hp qs
    obtain ⟨fp, np⟩ := strange_ok c a1 b1 p (List.mem_of_getElem? hp)
    induction qs with
    | nil => exact fun s8 _ => ⟨s8, .nil⟩
    | cons q qs ih =>
      intro s8 hq
      have h1 := hq q List.mem_cons_self
      obtain ⟨s8', hL⟩ := ih (.val (.int q)) fun z hz => hq z (List.mem_cons_of_mem _ hz)
      exact ⟨s8', .next trivial (ss_one (sv_if_f (tv_not_t (tv_val (ev_call F rfl (Nat.le_refl 8) (av_cons (v 8) (av_cons (v 0) (av_cons (ev_ixT (n := k.toNat) (v 6) (v 7) (by omega) hp) av_nil))) ⟨q, c, p, h1.1, h1.2, hc, fp, np, rfl, rfl⟩ rfl))) ss_nil)) hL⟩
  have outer2 : ∀ (a b : Int), 1 ≤ a → 1 ≤ b → ∀ (ks : List Int) (s7 s8 : Sl), (∀ k ∈ ks, 0 ≤ k ∧ k < 16) → ∃ s7' s8' : Sl, LoopV (gam P w K mg base nNear (topS 45) 8 true) (.one 7) (forBody (nthS (defBody (topS 45)) 3)) (ks.map PV.int)
      [.val (clkV c), .val (.lst ((piecesOf c).map pr)), .val (.int (turnsIn c)), .val (.int d), .val (.int a), .val (.int b), .val (.tup (strangeL a b)), s7, s8]
      (.nx [.val (clkV c), .val (.lst ((piecesOf c).map pr)), .val (.int (turnsIn c)), .val (.int d), .val (.int a), .val (.int b), .val (.tup (strangeL a b)), s7', s8']) := by
    intro a b a1 b1 ks
    induction ks with
    | nil => exact fun s7 s8 _ => ⟨s7, s8, .nil⟩
    | cons k ks ih =>
      intro s7 s8 hk
      have h1 := hk k List.mem_cons_self
      have hlt : k.toNat < (strangeL a b).length := by
        show k.toNat < 16
        omega
      obtain ⟨t8, hI⟩ := inner2 a b _ k a1 b1 h1.1 (getD_some hlt .non) (span 0 4) s8 fun q hq => mem_span.mp hq
      obtain ⟨s7', s8', hL⟩ := ih (.val (.int k)) t8 fun z hz => hk z (List.mem_cons_of_mem _ hz)
      exact ⟨s7', s8', .next trivial (ss_one (sv_for rfl (IV.to (iv_rng1 ev_int (by omega) (by omega) bt.range) (rng_span1 _)) (bv_one rfl (.inl rfl)) hI)) hL⟩
  have hpos : 0 < (piecesOf c).length := List.length_pos_iff.mpr hne
  have hm1 := Int.emod_nonneg (d / 4) (show ((piecesOf c).length : Int) ≠ 0 by omega)
  have hm2 := Int.emod_lt_of_pos (d / 4) (show (0 : Int) < ((piecesOf c).length : Int) by omega)
  have hlt : (d / 4 % ((piecesOf c).length : Int)).toNat < (piecesOf c).length := by omega
  have hz := getD_mem hlt (0, 0)
  have gp := map_get (f := pr) hlt (0, 0)
  generalize (piecesOf c).getD (d / 4 % ((piecesOf c).length : Int)).toNat (0, 0) = z at hz gp
  have q := (mem_pieces hz).1
  have e : (((piecesOf c).map pr).length : Int) = ((piecesOf c).length : Int) := by rw [List.length_map]
  obtain ⟨s4, s5, hL1⟩ := outer (span 0 (c.1 + 2)) .no .no
  obtain ⟨s7, s8, hL2⟩ := outer2 z.1 z.2 q.a1 q.b1 (span 0 16) .no .no fun k hk => mem_span.mp hk
  refine ⟨_, .rt, ss_cons (sv_for rfl (IV.to (iv_rng1 (ev_add (ev_ixT (n := 0) (v 0) ev_int rfl rfl) ev_int) (by omega) (by omega) bt.range) (rng_span1 _)) (bv_one rfl (.inl rfl)) hL1) ?_⟩
  refine ss_cons (SV.to (sv_unpack (ns := [4, 5]) (xs := [.int z.1, .int z.2]) (.cons rfl (.inl rfl) (.inl rfl) (.cons rfl (.inl rfl) (.inl rfl) .nil)) rfl (ev_ixL (n := (d / 4 % ((piecesOf c).length : Int)).toNat) (lv_val (v 1)) (ev_mod (ev_fdiv (v 3) ev_int ⟨by omega, by omega⟩) (EV.to (ev_len (qv_l (lv_val (v 1))) bt.len) (congrArg PV.int e)) (by omega)) (by omega) gp) rfl) (q := .nx [.val (clkV c), .val (.lst ((piecesOf c).map pr)), .val (.int (turnsIn c)), .val (.int d), .val (.int z.1), .val (.int z.2), .no, .no, .no]) rfl) ?_
  refine ss_cons (sv_set (n := 6) (p := .tup (strangeL z.1 z.2)) rfl (.inl rfl) (ev_tup ?_ (show 16 ≤ 100000 by decide))) (ss_cons (sv_for rfl (IV.to (iv_rng1 (EV.to (q := .int 16) (ev_len (xs := strangeL z.1 z.2) (qv_t (v 6)) bt.len) rfl) (by omega) (by omega) bt.range) (rng_span1 16)) (bv_one rfl (.inl rfl)) hL2) (ss_one (sv_ret ev_bl)))
  refine av_cons ev_non (av_cons ev_str (av_cons (ev_tup av_nil (by decide)) (av_cons (ev_tup (av_cons (v 4) av_nil) (show 1 ≤ 100000 by decide)) (av_cons (ev_tup (av_cons (v 4) (av_cons (v 5) (av_cons (v 5) av_nil))) (show 3 ≤ 100000 by decide)) (av_cons (ev_lst (av_cons (v 4) (av_cons (v 5) av_nil)) (show 2 ≤ 100000 by decide)) (av_cons (ev_tup (av_cons (ev_tup (av_cons (v 4) (av_cons (v 5) av_nil)) (show 2 ≤ 100000 by decide)) av_nil) (show 1 ≤ 100000 by decide)) ?_))))))
  refine av_cons (ev_tup (av_cons (ev_neg (v 4)) (av_cons (v 5) av_nil)) (show 2 ≤ 100000 by decide)) (av_cons (ev_tup (av_cons (v 4) (av_cons (ev_neg (v 5)) av_nil)) (show 2 ≤ 100000 by decide)) (av_cons (ev_tup (av_cons ev_bl (av_cons ev_int av_nil)) (show 2 ≤ 100000 by decide)) (av_cons (ev_tup (av_cons ev_int (av_cons ev_bl av_nil)) (show 2 ≤ 100000 by decide)) ?_)))
  exact av_cons (ev_tup (av_cons (v 4) (av_cons ev_non av_nil)) (show 2 ≤ 100000 by decide)) (av_cons (ev_tup (av_cons ev_str (av_cons (v 5) av_nil)) (show 2 ≤ 100000 by decide)) (av_cons (ev_tup (av_cons (ev_tup (av_cons (v 4) av_nil) (show 1 ≤ 100000 by decide)) (av_cons (v 5) av_nil)) (show 2 ≤ 100000 by decide)) (av_cons (v 4) (av_cons ev_bl av_nil))))
/-! ### the law -/
structure Whole (c : Clk) : Prop where
  ok : OKc c
  told : Told c
  pieces : lawPieces c.1 (facs c) = piecesOf c
  ne : piecesOf c ≠ []
abbrev R_law : Rel := fun args r => ∃ script : List Int, script.length ≤ 1000 ∧ args = [.lst (script.map PV.int)] ∧ r = .ok (.bl true)
theorem b_law (hW : ∀ row, Row row → Whole (worldOf row)) (bt : Bt mg) (FD : FnV P w K mg base 1 "_law_draws" pDraws R_draws) (FH : FnV P w K mg base 7 "_law_hand" pHand R_hand) (FW : FnV P w K mg base 3 "_law_world" pWorld R_world) (FF : FnV P w K mg base 1 "_law_factors" pFacs R_facs)
    (FP : FnV P w K mg base 2 "_law_pieces" pLP R_lpieces) (FS : FnV P w K mg base 3 "_law_same" pSame (R_same 2)) (FO : FnV P w K mg base 5 "pieces_of" ["clock"] R_pieces) (FT : FnV P w K mg base 7 "_law_told" pTold R_told) (FN : FnV P w K mg base 9 "_law_near" pNear R_near) : Bod P w K mg base nLaw 46 9 pLaw R_law := by
  intro args r h hl
  obtain ⟨script, hs, rfl, rfl⟩ := h
  obtain ⟨r1, r2⟩ := drawn_ok script
  have hrow : Row (drawn script) := ⟨r1, r2⟩
  generalize hdr : drawn script = row at hrow
  have W := hW row hrow
  generalize hwo : worldOf row = c at W
  obtain ⟨hc, hT, hP, hne⟩ := W
  have fsl := facs_len hc
  have t2 := hc.t2
  have hplen := pieces_len hc
  have g0 := hrow.at (i := 0) (by decide)
  have g1 := hrow.at (i := 1) (by decide)
  have same : ∀ ρ : List Sl, ρ[2]? = some (.val (clkV c)) → ρ[4]? = some (.val (.lst ((piecesOf c).map pr))) → True := fun _ _ _ => trivial
  refine ⟨_, .rt, ss_cons (sv_set (n := 1) (p := .lst (row.map PV.int)) rfl (.inl rfl) (ev_call FD rfl (show (1:Nat) ≤ 9 by decide) (av_cons (v 0) (av_cons ev_int av_nil)) ⟨script, hs, rfl, by rw [hdr]⟩ rfl)) ?_⟩
  refine ss_cons (sv_if_f (tv_not_t (tv_val (ev_call FH rfl (show (7:Nat) ≤ 9 by decide) (av_cons (ev_mod (ev_toint (ev_ixL (n := 0) (lv_val (v 1)) ev_int rfl (hrow.get (by decide))) bt.int) ev_int (by omega)) av_nil) ⟨row.getD 0 0 % 4, by omega, by omega, rfl, rfl⟩ rfl))) ss_nil) ?_
  refine ss_cons (sv_set (n := 2) (p := clkV c) rfl (.inl rfl) (ev_call FW rfl (show (3:Nat) ≤ 9 by decide) (av_cons (v 1) av_nil) ⟨row, hrow, rfl, by rw [hwo]⟩ rfl)) ?_
  refine ss_cons (sv_set (n := 3) (p := .lst ((facs c).map PV.int)) rfl (.inl rfl) (ev_call FF rfl (show (1:Nat) ≤ 9 by decide) (av_cons (v 2) av_nil) ⟨c, hc, rfl, rfl⟩ rfl)) ?_
  refine ss_cons (sv_set (n := 4) (p := .lst ((piecesOf c).map pr)) rfl (.inl rfl) (ev_call FP rfl (show (2:Nat) ≤ 9 by decide) (av_cons (v 2) (av_cons (v 3) av_nil)) ⟨c, facs c, hc, by omega, rfl, by rw [hP]⟩ rfl)) ?_
  refine ss_cons (sv_if_f (tv_not_t (tv_val (ev_call FS rfl (show (3:Nat) ≤ 9 by decide) (av_cons (ev_call FO rfl (show (5:Nat) ≤ 9 by decide) (av_cons (v 2) av_nil) ⟨c, hc, rfl, rfl⟩ rfl) (av_cons (ev_totup (qv_l (lv_val (v 4))) bt.tuple) av_nil)) ⟨_, same_prs (by omega), rfl, rfl⟩ rfl))) ss_nil) ?_
  refine ss_cons (sv_if_f (tv_w (wv_or_f (tv_not_t (tv_val (ev_call FT rfl (show (7:Nat) ≤ 9 by decide) (av_cons (v 2) (av_cons (v 4) (av_cons (v 3) av_nil))) ⟨c, hc, hT, rfl, rfl⟩ rfl))) (wv_or1 (tv_not_t (tv_val (ev_call FN rfl (Nat.le_refl 9) (av_cons (v 2) (av_cons (v 4) (av_cons (EV.to (ev_len (qv_l (lv_val (v 3))) bt.len) (congrArg PV.int (by rw [List.length_map]; exact fsl))) (av_cons (ev_ixL (n := 1) (lv_val (v 1)) ev_int rfl (hrow.get (by decide))) av_nil)))) ⟨c, row.getD 1 0, hc, by omega, by omega, hne, rfl, rfl⟩ rfl)))))) ss_nil) ?_
  exact ss_one (sv_ret (ev_call FS rfl (show (3:Nat) ≤ 9 by decide) (av_cons (ev_call FO rfl (show (5:Nat) ≤ 9 by decide) (av_cons (v 2) av_nil) ⟨c, hc, rfl, rfl⟩ rfl) (av_cons (ev_totup (qv_l (lv_val (v 4))) bt.tuple) av_nil)) ⟨_, same_prs (by omega), rfl, rfl⟩ rfl))
theorem fn_law (hW : ∀ row, Row row → Whole (worldOf row)) (A : At K mg "law" 46 pLaw) (bt : Bt mg) (FD : FnV P w K mg base 1 "_law_draws" pDraws R_draws) (FH : FnV P w K mg base 7 "_law_hand" pHand R_hand) (FW : FnV P w K mg base 3 "_law_world" pWorld R_world) (FF : FnV P w K mg base 1 "_law_factors" pFacs R_facs)
    (FP : FnV P w K mg base 2 "_law_pieces" pLP R_lpieces) (FS : FnV P w K mg base 3 "_law_same" pSame (R_same 2)) (FO : FnV P w K mg base 5 "pieces_of" ["clock"] R_pieces) (FT : FnV P w K mg base 7 "_law_told" pTold R_told) (FN : FnV P w K mg base 9 "_law_near" pNear R_near) : FnV P w K mg base 10 "law" pLaw R_law := fn_at A scLaw (b_law hW bt FD FH FW FF FP FS FO FT FN)
end
end K12

namespace K12
open PySem PySem.Spec PyProof.Rows L2 VL

def okB (c : Clk) : Bool := decide (1 ≤ c.1) && (decide (c.1 ≤ 60) && (c.2.all (fun m => decide (2 ≤ m.1) && (decide (m.1 ≤ 60) && (decide (0 ≤ m.2) && decide (m.2 ≤ 60)))) && (decide (c.2.length ≤ 60) && (decide (1 ≤ turnsIn c) && decide (turnsIn c ≤ 60)))))
theorem okB_ok {c : Clk} (h : okB c = true) : OKc c := by
  simp only [okB, Bool.and_eq_true, decide_eq_true_eq, List.all_eq_true] at h
  obtain ⟨h1, h2, h3, h4, h5, h6⟩ := h
  exact ⟨h1, h2, fun m hm => by
    have := h3 m hm
    omega, h4, h5, h6⟩
def sceneB (s : Scene) : Bool := okB s.1 && (decide (s.2.1 = piecesOf s.1) && (decide (s.2.2.1 = (piecesOf s.1).map fun z => edgeIn s.1 z.1) && (decide (s.2.2.2.1 = (piecesOf s.1).map (grainIn s.1)) && (decide (s.2.2.2.2 = (piecesOf s.1).map widthIn) && decide ((piecesOf s.1)[0]? = some (1, 1))))))
theorem sceneB_ok {s : Scene} (h : sceneB s = true) : SceneOk s := by
  simp only [sceneB, Bool.and_eq_true, decide_eq_true_eq] at h
  obtain ⟨h1, h2, h3, h4, h5, h6⟩ := h
  exact ⟨okB_ok h1, h2, h3, h4, h5, h6⟩
theorem scenes_ok : ∀ q : Nat, q < 4 → SceneOk (scenes.getD q ((1, []), [], [], [], [])) := by
  have key : ∀ q : Nat, q < 4 → sceneB (scenes.getD q ((1, []), [], [], [], [])) = true := by decide +kernel
  exact fun q h => sceneB_ok (key q h)
def wholeB (c : Clk) : Bool :=
  let ps := piecesOf c
  let fs := facs c
  okB c && (decide (lawPieces c.1 fs = ps) && (!ps.isEmpty && (ps.all (fun z => decide (edgeIn c z.1 = lawEdge z.1 fs) && (decide (grainIn c z = lawGrain z.1 z.2 fs) && (decide (widthIn z = ((unitsL z.1).length : Int) * ((unitsL z.2).length : Int)) && decide (pairsOf z.1 z.2 = ps.filter fun q => decide (z.1 % q.1 = 0) && decide (z.2 % q.2 = 0))))) &&
    (decide (ps.foldl (fun s z => s + edgeIn c z.1 * widthIn z) 0 = c.1 * turnsIn c) && decide (ps.foldl (fun s z => s + grainIn c z) 0 * (c.1 * turnsIn c) = exch c.1 fs (c.1 * turnsIn c))))))
theorem wholeB_ok {c : Clk} (h : wholeB c = true) : Whole c := by
  simp only [wholeB, Bool.and_eq_true, decide_eq_true_eq, List.all_eq_true, Bool.not_eq_true', List.isEmpty_eq_false_iff] at h
  obtain ⟨h1, h2, h3, h4, h5, h6⟩ := h
  exact ⟨okB_ok h1, ⟨fun z hz => (h4 z hz).1, fun z hz => (h4 z hz).2.1, fun z hz => (h4 z hz).2.2.1, fun z hz => (h4 z hz).2.2.2, h5, h6⟩, h2, h3⟩
def rootsW (n m : Int) : List Int := if (roots n m).contains 1 then roots n m else 1 :: roots n m
def wsFrom (n : Int) : List Int → Int → List (List (Int × Int))
  | [], _ => [[]]
  | m :: ms, s => wsFrom n ms s ++ (if decide (n % m = 0) then [] else if decide (s * m ≤ 60) then (rootsW n m).flatMap fun r => (wsFrom n ms (s * m)).map fun l => (m, r) :: l else [])
theorem rootsW_mem {n m r : Int} (h : r = 1 ∨ r ∈ roots n m) : r ∈ rootsW n m := by
  unfold rootsW
  split
  · next hc =>
    rcases h with h | h
    · subst h; simpa using hc
    · exact h
  · rcases h with h | h
    · subst h; exact List.mem_cons_self
    · exact List.mem_cons_of_mem _ h
theorem rootOf_mem {row : List Int} (n k m : Int) (hm : primesT.getD k.toNat 0 = m) : rootOf row n k ∈ rootsW n m := by
  refine rootsW_mem ?_
  unfold rootOf
  rw [hm]
  split
  · next hz =>
    have hlt : 1 < ((roots n m).length : Int) := of_decide_eq_true (Bool.and_eq_true_iff.mp hz).1
    have q1 := Int.emod_nonneg (row.getD (k.toNat + 6) 0 / 15) (show (((roots n m).length : Int) - 1) ≠ 0 by omega)
    have q2 := Int.emod_lt_of_pos (row.getD (k.toNat + 6) 0 / 15) (show 0 < (((roots n m).length : Int) - 1) by omega)
    exact .inr (getD_mem (by omega) 0)
  · exact .inl rfl
theorem ws_mem (row : List Int) (n : Int) : ∀ (j i : Nat) (ms : List (Int × Int)) (s : Int), i + j = 17 → ∃ l, ((span (i : Int) 17).foldl (fun st k => wstep row n k st) (ms, s)).1 = ms ++ l ∧ l ∈ wsFrom n (primesT.drop i) s
  | 0, i, ms, s, h => by
    have : i = 17 := by omega
    subst this
    exact ⟨[], by rw [List.append_nil]; rfl, List.mem_singleton.mpr rfl⟩
  | j + 1, i, ms, s, h => by
    have hi : i < primesT.length := by
      show i < 17
      omega
    have hd : primesT.drop i = primesT.getD i 0 :: primesT.drop (i + 1) := by
      rw [List.drop_eq_getElem_cons hi, List.getD_eq_getElem?_getD, List.getElem?_eq_getElem hi]
      rfl
    rw [span_cons (show (i : Int) < 17 by omega), List.foldl_cons, hd, show ((i : Int) + 1) = ((i + 1 : Nat) : Int) by omega]
    generalize hm : primesT.getD i 0 = m
    have hm' : primesT.getD (i : Int).toNat 0 = m := hm
    cases hv : moved row n (i : Int) (ms, s) with
    | false =>
      rw [show wstep row n (i : Int) (ms, s) = (ms, s) from if_neg (by rw [hv]; decide)]
      obtain ⟨l, h1, h2⟩ := ws_mem row n j (i + 1) ms s (by omega)
      exact ⟨l, h1, List.mem_append_left _ h2⟩
    | true =>
      rw [show wstep row n (i : Int) (ms, s) = (ms ++ [(m, rootOf row n i)], s * m) by unfold wstep; rw [if_pos hv, hm']]
      obtain ⟨l, h1, h2⟩ := ws_mem row n j (i + 1) (ms ++ [(m, rootOf row n i)]) (s * m) (by omega)
      refine ⟨(m, rootOf row n i) :: l, by rw [h1]; simp, List.mem_append_right _ ?_⟩
      unfold moved at hv
      rw [hm'] at hv
      obtain ⟨v1, v2⟩ := Bool.and_eq_true_iff.mp hv
      obtain ⟨v2, v3⟩ := Bool.and_eq_true_iff.mp v2
      have v1' : decide (n % m = 0) = false := by simpa using v1
      rw [if_neg (by rw [v1']; decide), if_pos (show decide (s * m ≤ 60) = true from v2)]
      exact List.mem_flatMap.mpr ⟨_, rootOf_mem n i m hm', List.mem_map.mpr ⟨l, h2, rfl⟩⟩
theorem chosen_sub {t : Int} (h : t ≤ 60) {x : Int} (hx : x ∈ chosen t) : x ∈ chosen 60 := by
  obtain ⟨h1, h2⟩ := List.mem_filter.mp hx
  have := mem_span.mp h1
  exact List.mem_filter.mpr ⟨mem_span.mpr (by omega), h2⟩
def goodAt (n : Int) : Bool := (wsFrom n primesT n).all fun l => wholeB (n, l)
end K12

namespace K12
open PySem PySem.Spec PyProof.Rows L2 VL

theorem good_1 : goodAt 1 = true := by decide +kernel
theorem good_2 : goodAt 2 = true := by decide +kernel
theorem good_3 : goodAt 3 = true := by decide +kernel
theorem good_5 : goodAt 5 = true := by decide +kernel
theorem good_6 : goodAt 6 = true := by decide +kernel
theorem good_7 : goodAt 7 = true := by decide +kernel
theorem good_10 : goodAt 10 = true := by decide +kernel
theorem good_11 : goodAt 11 = true := by decide +kernel
theorem good_13 : goodAt 13 = true := by decide +kernel
theorem good_14 : goodAt 14 = true := by decide +kernel
theorem good_15 : goodAt 15 = true := by decide +kernel
theorem good_17 : goodAt 17 = true := by decide +kernel
theorem good_19 : goodAt 19 = true := by decide +kernel
theorem good_21 : goodAt 21 = true := by decide +kernel
theorem good_22 : goodAt 22 = true := by decide +kernel
theorem good_23 : goodAt 23 = true := by decide +kernel
theorem good_26 : goodAt 26 = true := by decide +kernel
theorem good_29 : goodAt 29 = true := by decide +kernel
theorem good_30 : goodAt 30 = true := by decide +kernel
theorem good_31 : goodAt 31 = true := by decide +kernel
theorem good_33 : goodAt 33 = true := by decide +kernel
theorem good_34 : goodAt 34 = true := by decide +kernel
theorem good_35 : goodAt 35 = true := by decide +kernel
theorem good_37 : goodAt 37 = true := by decide +kernel
theorem good_38 : goodAt 38 = true := by decide +kernel
theorem good_39 : goodAt 39 = true := by decide +kernel
theorem good_41 : goodAt 41 = true := by decide +kernel
theorem good_42 : goodAt 42 = true := by decide +kernel
theorem good_43 : goodAt 43 = true := by decide +kernel
theorem good_46 : goodAt 46 = true := by decide +kernel
theorem good_47 : goodAt 47 = true := by decide +kernel
theorem good_51 : goodAt 51 = true := by decide +kernel
theorem good_53 : goodAt 53 = true := by decide +kernel
theorem good_55 : goodAt 55 = true := by decide +kernel
theorem good_57 : goodAt 57 = true := by decide +kernel
theorem good_58 : goodAt 58 = true := by decide +kernel
theorem good_59 : goodAt 59 = true := by decide +kernel
theorem chosen_60 : chosen 60 = [1, 2, 3, 5, 6, 7, 10, 11, 13, 14, 15, 17, 19, 21, 22, 23, 26, 29, 30, 31, 33, 34, 35, 37, 38, 39, 41, 42, 43, 46, 47, 51, 53, 55, 57, 58, 59] := by decide +kernel
theorem good_all : ∀ n ∈ chosen 60, goodAt n = true := by
  intro n hn
  rw [chosen_60] at hn
  rcases List.mem_cons.mp hn with h | hn
  · exact h ▸ good_1
  rcases List.mem_cons.mp hn with h | hn
  · exact h ▸ good_2
  rcases List.mem_cons.mp hn with h | hn
  · exact h ▸ good_3
  rcases List.mem_cons.mp hn with h | hn
  · exact h ▸ good_5
  rcases List.mem_cons.mp hn with h | hn
  · exact h ▸ good_6
  rcases List.mem_cons.mp hn with h | hn
  · exact h ▸ good_7
  rcases List.mem_cons.mp hn with h | hn
  · exact h ▸ good_10
  rcases List.mem_cons.mp hn with h | hn
  · exact h ▸ good_11
  rcases List.mem_cons.mp hn with h | hn
  · exact h ▸ good_13
  rcases List.mem_cons.mp hn with h | hn
  · exact h ▸ good_14
  rcases List.mem_cons.mp hn with h | hn
  · exact h ▸ good_15
  rcases List.mem_cons.mp hn with h | hn
  · exact h ▸ good_17
  rcases List.mem_cons.mp hn with h | hn
  · exact h ▸ good_19
  rcases List.mem_cons.mp hn with h | hn
  · exact h ▸ good_21
  rcases List.mem_cons.mp hn with h | hn
  · exact h ▸ good_22
  rcases List.mem_cons.mp hn with h | hn
  · exact h ▸ good_23
  rcases List.mem_cons.mp hn with h | hn
  · exact h ▸ good_26
  rcases List.mem_cons.mp hn with h | hn
  · exact h ▸ good_29
  rcases List.mem_cons.mp hn with h | hn
  · exact h ▸ good_30
  rcases List.mem_cons.mp hn with h | hn
  · exact h ▸ good_31
  rcases List.mem_cons.mp hn with h | hn
  · exact h ▸ good_33
  rcases List.mem_cons.mp hn with h | hn
  · exact h ▸ good_34
  rcases List.mem_cons.mp hn with h | hn
  · exact h ▸ good_35
  rcases List.mem_cons.mp hn with h | hn
  · exact h ▸ good_37
  rcases List.mem_cons.mp hn with h | hn
  · exact h ▸ good_38
  rcases List.mem_cons.mp hn with h | hn
  · exact h ▸ good_39
  rcases List.mem_cons.mp hn with h | hn
  · exact h ▸ good_41
  rcases List.mem_cons.mp hn with h | hn
  · exact h ▸ good_42
  rcases List.mem_cons.mp hn with h | hn
  · exact h ▸ good_43
  rcases List.mem_cons.mp hn with h | hn
  · exact h ▸ good_46
  rcases List.mem_cons.mp hn with h | hn
  · exact h ▸ good_47
  rcases List.mem_cons.mp hn with h | hn
  · exact h ▸ good_51
  rcases List.mem_cons.mp hn with h | hn
  · exact h ▸ good_53
  rcases List.mem_cons.mp hn with h | hn
  · exact h ▸ good_55
  rcases List.mem_cons.mp hn with h | hn
  · exact h ▸ good_57
  rcases List.mem_cons.mp hn with h | hn
  · exact h ▸ good_58
  exact List.mem_singleton.mp hn ▸ good_59
theorem menu_all : ∀ q : Nat, q < 16 → wholeB (menuT.getD q (1, [])) = true := by decide +kernel
theorem whole_of (row : List Int) (h : Row row) : Whole (worldOf row) := by
  unfold worldOf
  split
  · have g3 := h.at (i := 3) (by decide)
    exact wholeB_ok (menu_all _ (by omega))
  · obtain ⟨t1, t2, t3, t4⟩ := top_ok h
    obtain ⟨b1, b2, b3⟩ := beats_ok h
    obtain ⟨l, h1, h2⟩ := ws_mem row (beatsOf row) 17 0 [] (beatsOf row) (by omega)
    have hb : beatsOf row ∈ chosen 60 := chosen_sub t3 (getD_mem b1 0)
    have := List.all_eq_true.mp (good_all _ hb) l h2
    have e : anyWorld row = (beatsOf row, l) := by
      unfold anyWorld
      rw [show ((0 : Int)) = ((0 : Nat) : Int) from rfl, h1, List.nil_append]
    rw [e]
    exact wholeB_ok this
end K12

namespace K12
open PySem PySem.Spec PyProof.Rows L2 VL
/-! ### the error's own making -/
abbrev sInit : Stmt := inClass (topS 19) 0
theorem scInit : FnScope ["self", "word", "at"] ["self", "word", "at"] (defScope sInit) := ⟨rfl, rfl, rfl, by decide +kernel, rfl, by decide +kernel, by decide +kernel⟩
section
variable {P : Program} {w : World} {K : PySem.W.Frag} {mg : Str → Option Value} {base : Heap} {C D : Addr}
theorem ok_init {f : Addr} {fd : FuncData} (F : Fun K "__init__" "NotUsable.__init__" sInit f fd) (T : OexC K C) (fw : PySem.W.findIn K (.ref C) "word" = some none) (fa : PySem.W.findIn K (.ref C) "at" = some none) :
    FnOk P w K mg base CX0 1 f fd ["self", "word", "at"] (spInit C "word" "at") := by
  refine F.ok scInit (fun vs H Q E h => ?_) (fun cdv A outer s H vs Q E hr h => ⟨_, pss_cons (ps_ost (pv 0) (pv 1) rfl) (pss_one (ps_ost (pv 0) (pv 2) rfl)), ?_⟩)
  · obtain ⟨a, x, y, rfl, _⟩ := h
    rfl
  · obtain ⟨a, x, y, rfl, ha, q⟩ := h
    refine ⟨x, rfl, .ref a, rfl, a, C, rfl, T, fw, .inl ⟨ha, fun dx n ne => ?_⟩⟩
    refine ⟨y, rfl, .ref a, rfl, a, C, rfl, T, fa, .inr ⟨dx, [("word", x)], upd_same, (upd_ne ne).trans upd_same, (show 1 ≤ 900 by decide), ?_⟩⟩
    refine q dx _ (fun b o hb ho => ?_) n ((upd_ne (fun z => ne z.symm)).trans upd_same) upd_same
    have hbd : b ≠ dx := fun z => by rw [z, n] at ho; cases ho
    exact (upd_ne hbd).trans ((upd_ne hb).trans ((upd_ne hbd).trans ho))
/-! ### what the top has written -/
structure AtK (K : PySem.W.Frag) (mg : Str → Option Value) (x : Str) (i : Nat) (ps ks : List Str) (rev : Bool) : Prop where
  ex : ∃ f fd, Fun K x x (topS i) f fd ∧ mg x = some (.ref f) ∧ ∀ (s : Shared) (ws : List Value), K.In s.heap → ws.length = ps.length → BindsTo s fd ⟨[], ks.zip ws⟩ (ps.zip (if rev then ws.reverse else ws))
theorem fn_atK {x : Str} {i : Nat} {N ps ks : List Str} {rev : Bool} {k : Nat} {R : Rel} (A : AtK K mg x i ps ks rev) (S : FnScope N ps (defScope (topS i))) (body : Bod P w K mg base N i k ps R) : FnVK P w K mg base (k + 1) x ps ks rev R := by
  obtain ⟨f, fd, F, hm, hb⟩ := A.ex
  exact ⟨f, fd, hm, F.kp, fn_def_ok F S body, hb⟩
theorem at_mk {h : Heap} {x : Str} {i : Nat} {ps : List Str} (X : K.In h) (G : h.Ns mainGlobals mg) {f : Addr} {od an : Option Addr} {sl : Array (Option Value)} {oc kV dc pm cd ct : Value}
    (a : PySem.W.nsIn K mainGlobals x = some (some (.ref f))) (l : K.lookup f = some ⟨oc, od, .func (PySem.W.fnOf x x (defArgs (topS i)) (defBody (topS i)) (defScope (topS i)) .none kV dc pm an cd ct), sl⟩) (c : PySem.W.codeIn K cd x = true) (k : PySem.W.keepIn K (.ref f) = true)
    (hb : ∀ (kV doc pm : Value) (an : Option Addr) (cdv ct : Value) (us : List Value), us.length = ps.length → bindArgs (PySem.W.fnOf x x (defArgs (topS i)) (defBody (topS i)) (defScope (topS i)) .none kV doc pm an cdv ct) ⟨us, []⟩ = pure (ps.zip us)) : At K mg x i ps :=
  ⟨f, _, fun_mk l c k, PySem.W.mg_of X G a, (fun_mk l c k).binds hb⟩
theorem atK_mk {h : Heap} {x : Str} {i : Nat} {ps ks : List Str} {rev : Bool} (X : K.In h) (G : h.Ns mainGlobals mg) {f : Addr} {od an : Option Addr} {sl : Array (Option Value)} {oc kV dc pm cd ct : Value}
    (a : PySem.W.nsIn K mainGlobals x = some (some (.ref f))) (l : K.lookup f = some ⟨oc, od, .func (PySem.W.fnOf x x (defArgs (topS i)) (defBody (topS i)) (defScope (topS i)) .none kV dc pm an cd ct), sl⟩) (c : PySem.W.codeIn K cd x = true) (k : PySem.W.keepIn K (.ref f) = true)
    (hb : ∀ (kV doc pm : Value) (an : Option Addr) (cdv ct : Value) (us : List Value), us.length = ps.length → bindArgs (PySem.W.fnOf x x (defArgs (topS i)) (defBody (topS i)) (defScope (topS i)) .none kV doc pm an cdv ct) ⟨us, []⟩ = pure (ps.zip us))
    (hk : ∀ (kV doc pm : Value) (an : Option Addr) (cdv ct : Value) (ws : List Value), ws.length = ps.length → bindArgs (PySem.W.fnOf x x (defArgs (topS i)) (defBody (topS i)) (defScope (topS i)) .none kV doc pm an cdv ct) ⟨[], ks.zip ws⟩ = pure (ps.zip (if rev then ws.reverse else ws))) : At K mg x i ps ∧ AtK K mg x i ps ks rev :=
  ⟨at_mk X G a l c k hb, ⟨f, _, fun_mk l c k, PySem.W.mg_of X G a, fun s ws _ h => .of_eq (hk _ _ _ _ _ _ ws h)⟩⟩
theorem bind23 (kV doc pm : Value) (an : Option Addr) (cdv ct : Value) (ws : List Value) (h : ws.length = 1) : bindArgs (PySem.W.fnOf "pieces_of" "pieces_of" (defArgs (topS 23)) (defBody (topS 23)) (defScope (topS 23)) .none kV doc pm an cdv ct) ⟨[], (["clock"] : List Str).zip ws⟩ = pure ((["clock"] : List Str).zip ws) := match ws, h with | [_], _ => rfl
theorem bind24 (kV doc pm : Value) (an : Option Addr) (cdv ct : Value) (ws : List Value) (h : ws.length = 2) : bindArgs (PySem.W.fnOf "edge_at" "edge_at" (defArgs (topS 24)) (defBody (topS 24)) (defScope (topS 24)) .none kV doc pm an cdv ct) ⟨[], (["piece", "clock"] : List Str).zip ws⟩ = pure (nAt.zip ws.reverse) := match ws, h with | [_, _], _ => rfl
end
end K12

namespace K12
open PySem PySem.Spec PyProof.Rows L2 VL
section
variable {P : Program} {w : World} {K : PySem.W.Frag} {mg : Str → Option Value} {C D : Addr}
theorem all_of {fa f fI : Addr} {fdI : FuncData} (hfa : mg "law" = some (.ref fa)) {od an : Option Addr} {sl : Array (Option Value)} {oc kV dc pm cd ct : Value}
    (a : mg "law" = some (.ref f)) (l : K.lookup f = some ⟨oc, od, .func (PySem.W.fnOf "law" "law" (defArgs (topS 46)) (defBody (topS 46)) (defScope (topS 46)) .none kV dc pm an cd ct), sl⟩) (c : PySem.W.codeIn K cd "law" = true) (k : PySem.W.keepIn K (.ref f) = true)
    (bt : Bt mg) (E : ErrK K mg C D) (T : OexC K C) (iC : PySem.W.findIn K (.ref C) "__init__" = some (some (.ref fI))) (tI : PySem.W.typeIn K (.ref fI) = some (.type "function")) (FI : Fun K "__init__" "NotUsable.__init__" sInit fI fdI)
    (A2 : At K mg "is_prime" 2 ["number"])
    (A3 : At K mg "divisors_in" 3 ["number"])
    (A4 : At K mg "primes_in" 4 ["number"])
    (A5 : At K mg "units_in" 5 ["number"])
    (A6 : At K mg "multiplied" 6 ["factors"])
    (A8 : At K mg "turns_in" 8 ["clock"])
    (A9 : At K mg "edge_in" 9 ["clock", "a"])
    (A11 : At K mg "is_integer" 11 nThing)
    (A12 : At K mg "is_from_to" 12 nFT)
    (A13 : At K mg "is_divisor" 13 nDiv)
    (A14 : At K mg "is_pair" 14 nThing)
    (A15 : At K mg "is_piece" 15 nPiece)
    (A21 : At K mg "need" 21 nNeed)
    (B23 : At K mg "pieces_of" 23 ["clock"] ∧ AtK K mg "pieces_of" 23 ["clock"] ["clock"] false)
    (B24 : At K mg "edge_at" 24 nAt ∧ AtK K mg "edge_at" 24 nAt ["piece", "clock"] true)
    (B25 : At K mg "width_at" 25 nAt ∧ AtK K mg "width_at" 25 nAt ["piece", "clock"] true)
    (B26 : At K mg "grain_at" 26 nAt ∧ AtK K mg "grain_at" 26 nAt ["piece", "clock"] true)
    (B27 : At K mg "pieces_under" 27 nAt ∧ AtK K mg "pieces_under" 27 nAt ["piece", "clock"] true)
    (A29 : At K mg "_law_draws" 29 pDraws)
    (A30 : At K mg "_law_same" 30 pSame)
    (A31 : At K mg "_law_common" 31 pCom)
    (A32 : At K mg "_law_factors" 32 pFacs)
    (A33 : At K mg "_law_square_free" 33 pSqf)
    (A34 : At K mg "_law_roots" 34 pRoots)
    (A35 : At K mg "_law_any_world" 35 pAny)
    (A36 : At K mg "_law_world" 36 pWorld)
    (A37 : At K mg "_law_units" 37 pUnL)
    (A38 : At K mg "_law_edge" 38 pLEdge)
    (A39 : At K mg "_law_grain" 39 pLGr)
    (A40 : At K mg "_law_pieces" 40 pLP)
    (A41 : At K mg "_law_asked" 41 pAsk)
    (A42 : At K mg "_law_refuses" 42 pRef)
    (A43 : At K mg "_law_hand" 43 pHand)
    (A44 : At K mg "_law_told" 44 pTold)
    (A45 : At K mg "_law_near" 45 pNear)
    : ∃ fd : FuncData, (∀ (s : Shared) (u : Value), BindsTo s fd ⟨[u], []⟩ [("_law_script", u)]) ∧ ∀ base : Heap, FnOk P w K mg base (L2N.CX P w) 10 fa fd ["_law_script"] (spOf K 1 R_law) := by
  have e := hfa.symm.trans a
  cases e
  have FL := fun_mk l c k
  refine ⟨PySem.W.fnOf "law" "law" (defArgs (topS 46)) (defBody (topS 46)) (defScope (topS 46)) .none kV dc pm an cd ct, fun s u => .of_eq rfl, fun base => ?_⟩
  have bI : Binds K fdI ["self", "word", "at"] [] := FI.binds fun _ _ _ _ _ _ us hl => match us, hl with | [_, _, _], _ => rfl
  have E1 : ErrV P w K mg base 1 "NotUsable" C "word" "at" := ⟨E.mgC, T, fI, fdI, _, iC, tI, ok_init FI T E.fw E.fa, bI⟩
  have F2 : FnV P w K mg base 1 "is_prime" ["number"] R_prime := fn_prime A2 bt
  have F3 : FnV P w K mg base 1 "divisors_in" ["number"] R_divs := fn_divs A3 bt
  have F4 : FnV P w K mg base 2 "primes_in" ["number"] R_primes := fn_primes A4 bt F2 F3
  have F5 : FnV P w K mg base 3 "units_in" ["number"] R_units := fn_units A5 bt F4
  have F6 : FnV P w K mg base 1 "multiplied" ["factors"] R_mult := fn_mult A6
  have F8 : FnV P w K mg base 2 "turns_in" ["clock"] R_turns := fn_turns A8 F6
  have F9 : FnV P w K mg base 2 "edge_in" ["clock", "a"] R_edge := fn_edge A9 F6
  have F11 : FnV P w K mg base 1 "is_integer" nThing R_integer := fn_integer A11 bt
  have F12 : FnV P w K mg base 2 "is_from_to" nFT R_ft := fn_ft A12 F11
  have F13 : FnV P w K mg base 3 "is_divisor" nDiv R_div := fn_div A13 F12
  have F14 : FnV P w K mg base 1 "is_pair" nThing R_pair := fn_pair A14 bt
  have F15 : FnV P w K mg base 4 "is_piece" nPiece R_piece := fn_piece A15 bt F14 F13 F8 F9
  have F21 : FnV P w K mg base 3 "need" nNeed (R_need C) := fn_need A21 E1
  have F23 : FnV P w K mg base 5 "pieces_of" ["clock"] R_pieces := fn_pieces B23.1 bt F3 F8 F15
  have F24 : FnV P w K mg base 5 "edge_at" nAt (R_ask C fEdge) := fn_eat B24.1 F15 F21 F9
  have F25 : FnV P w K mg base 5 "width_at" nAt (R_ask C fWidth) := fn_wat B25.1 F15 F21 F5
  have F26 : FnV P w K mg base 6 "grain_at" nAt (R_ask C fGrain) := fn_gat B26.1 F25 F24
  have F27 : FnV P w K mg base 5 "pieces_under" nAt (R_ask C fUnder) := fn_uat B27.1 bt F15 F21 F3
  have F29 : FnV P w K mg base 1 "_law_draws" pDraws R_draws := fn_draws A29 bt
  have F30 : FnV P w K mg base 3 "_law_same" pSame (R_same 2) := fn_same A30 bt 2
  have H30 := fn_sameH (P := P) (w := w) (base := base) A30 bt
  have F31 : FnV P w K mg base 1 "_law_common" pCom R_com := fn_common A31 bt
  have F32 : FnV P w K mg base 1 "_law_factors" pFacs R_facs := fn_facs A32 bt
  have F33 : FnV P w K mg base 1 "_law_square_free" pSqf R_sqf := fn_sqf A33 bt
  have F34 : FnV P w K mg base 1 "_law_roots" pRoots R_roots := fn_roots A34 bt
  have F35 : FnV P w K mg base 2 "_law_any_world" pAny R_any := fn_any A35 bt F33 F34
  have F36 : FnV P w K mg base 3 "_law_world" pWorld R_world := fn_world A36 bt F35
  have F37 : FnV P w K mg base 2 "_law_units" pUnL R_unitsL := fn_unitsL A37 bt F31
  have F38 : FnV P w K mg base 1 "_law_edge" pLEdge R_ledge := fn_ledge A38 bt
  have F39 : FnV P w K mg base 3 "_law_grain" pLGr R_lgrain := fn_lgrain A39 bt F37
  have F40 : FnV P w K mg base 2 "_law_pieces" pLP R_lpieces := fn_lpieces A40 bt F38 F31
  have F41 : FnV P w K mg base 7 "_law_asked" pAsk (R_lasked C) := fn_lasked A41 F24 F26 F25 F27
  have F42 : FnV P w K mg base 8 "_law_refuses" pRef R_ref := fn_ref A42 bt E F41 H30
  have F43 : FnV P w K mg base 7 "_law_hand" pHand R_hand := fn_hand scenes_ok A43 bt F30 (fn_atK B23.2 scPOf (b_pieces bt F3 F8 F15)) (fn_atK B24.2 scEAt (b_eat F15 F21 F9)) (fn_atK B26.2 scGAt (b_gat F25 F24)) (fn_atK B25.2 scWAt (b_wat F15 F21 F5)) (fn_atK B27.2 scUAt (b_uat bt F15 F21 F3))
  have F44 : FnV P w K mg base 7 "_law_told" pTold R_told := fn_told A44 bt F30 F24 F26 F25 F27 F38 F39 F37
  have F45 : FnV P w K mg base 9 "_law_near" pNear R_near := fn_near A45 bt F42
  exact fn_def_ok FL scLaw (b_law whole_of bt F29 F43 F36 F32 F40 F30 F23 F44 F45)
theorem law_sp {H : Hp} {a : Addr} {ns : List Int} (hl : ns.length ≤ 63) (hS : SqL K H a (ns.map V.int)) : spOf K 1 R_law [.ref a] H (fun v _ => v = .bl true) fun _ _ _ => False :=
  ⟨[.lst (ns.map PV.int)], .ok (.bl true), fun _ => False, .lst (hS.elim (fun h => .inl ⟨fun z => z, h⟩) .inr) VRs.ints .nil, fun b z => z.elim, rfl, ⟨ns, by omega, rfl, rfl⟩, fun v H' _ r => vr_bl r⟩
theorem oex_mk {ob : Obj} {nm q : Str} {N : Addr} {bs bm : List Value} {sn : List Str} {sub : List Value} {ab : Bool} {col : Option Bool} {dd : Option Addr} {k0 k1 k2 k3 k5 : Option Value} (l : K.lookup C = some ob)
    (e : ob = excClassObj nm q C N bs bm true sn sub ab col dd k0 k1 k2 k3 k5 "ValueError.__new__") (r : PySem.HandSPX.refsVE bm = true) (sa : PySem.W.findIn K (.ref C) "__setattr__" = some (some (.builtin "object.__setattr__")))
    (ex : PySem.W.subIn K (.ref C) (.type "BaseException") = some true) (ty : PySem.W.typeIn K (.ref C) = some (.type "type")) (kc : PySem.W.keepIn K (.ref C) = true) : OexC K C :=
  ⟨⟨nm, q, N, bs, bm, sn, sub, ab, col, dd, k0, k1, k2, k3, k5, e ▸ l, r⟩, sa, ex, ty, kc⟩
theorem cls_ok {S : Addr} {t : Value} (h2 : PySem.W.isClsIn K S = true) (h3 : PySem.W.typeIn K (.ref S) = some (.type "type")) (h4 : PySem.W.subIn K t (.ref S) = some true) : PySem.W.kitCls K t (.ref S) = some true := by
  have e2 : ((PySem.W.clsIn K S).isSome && PySem.W.typeIn K (.ref S) == some (.type "type")) = true := by
    rw [show (PySem.W.clsIn K S).isSome = true from h2, h3]
    rfl
  exact (if_pos e2).trans h4
theorem exm_ok (h1 : PySem.W.subIn K (.ref C) (.type "BaseException") = some true) (h2 : PySem.W.isClsIn K C = true) (h3 : PySem.W.typeIn K (.ref C) = some (.type "type")) (h4 : PySem.W.subIn K (.ref C) (.ref C) = some true) : PySem.W.exmOne K (.ref C) (.ref C) = some true := by
  unfold PySem.W.exmOne
  rw [h1]
  exact cls_ok h2 h3 h4
theorem kit_ok (h2 : PySem.W.isClsIn K D = true) (h3 : PySem.W.typeIn K (.ref D) = some (.type "type")) (h4 : PySem.W.subIn K (.ref C) (.ref D) = some true) : PySem.W.kitOne K (.ref C) (.ref D) = some true := by
  unfold PySem.W.kitOne
  split
  · rfl
  · exact cls_ok h2 h3 h4
theorem fin_of {fa : Addr} (h : ∃ fd : FuncData, (∀ (s : Shared) (u : Value), BindsTo s fd ⟨[u], []⟩ [("_law_script", u)]) ∧ ∀ base : Heap, FnOk P w K mg base (L2N.CX P w) 10 fa fd ["_law_script"] (spOf K 1 R_law)) :
    ∃ fd : FuncData, (∀ (s : Shared) (u : Value), BindsTo s fd ⟨[u], []⟩ [("_law_script", u)]) ∧ ∀ base : Heap, K.In base → base.Ns mainGlobals mg → FnOk P w K mg base (L2N.CX P w) 10 fa fd ["_law_script"] (spOf K 1 R_law) :=
  let ⟨fd, h1, h2⟩ := h
  ⟨fd, h1, fun base _ _ => h2 base⟩
theorem noCX {P : Program} {w : World} {H : Hp} {s : Shared} {e : Value} {s' : Shared} (h : L2N.CX P w [] H s (fun _ _ _ => False) e s') : False := by
  obtain ⟨_, _, _, _, _, _, _, _, _, _, _, _, z⟩ := h
  exact z.elim
end
end K12

open PySem PySem.W PyProof.Rows
set_option maxHeartbeats 0 in
theorem PySem.Challenge.cw_evenlater_k12_whole_pieces_by_orbits_holds : PySem.Challenge.rw_evenlater_k12_whole_pieces_by_orbits.Holds := by
  w_on; o_law; k_head; (case hw => w_witness2)
  k_fill
  refine L2.walk_of (l := PySem.Challenge.rw_evenlater_k12_whole_pieces_by_orbits) (n := 63) (k := 10) (x := "_law_script") (CX := fun w => L2N.CX PySem.Challenge.rw_evenlater_k12_whole_pieces_by_orbits.prog w) (sp := fun w => VL.spOf _ 1 K12.R_law) rfl (by decide) rfl ⟨rfl, by decide, by decide⟩ (fun w h Y => PySem.W.kIn_of Y) ?F (fun _ H a ns hl _ hS => K12.law_sp hl hS) (fun _ _ _ _ _ h => K12.noCX h)
  case F =>
    intro w mg fa h KX G hmg
    refine' K12.fin_of (K12.all_of (C := ?gC) (D := ?gD) (fI := ?gI) hmg (PySem.W.mg_of KX G ?aL) ?lL ?cL ?kL
      ⟨PySem.W.mg_none_of KX G ?z0, PySem.W.mg_none_of KX G ?z1, PySem.W.mg_none_of KX G ?z2, PySem.W.mg_none_of KX G ?z3, PySem.W.mg_none_of KX G ?z4, PySem.W.mg_none_of KX G ?z5, PySem.W.mg_none_of KX G ?z6, PySem.W.mg_none_of KX G ?z7, PySem.W.mg_none_of KX G ?z8, PySem.W.mg_of KX G ?y0, PySem.W.mg_of KX G ?y1⟩
      ⟨PySem.W.mg_of KX G ?gn, PySem.W.mg_of KX G ?gd, K12.exm_ok ?m1 ?m2 ?m3 ?m4, K12.kit_ok ?n2 ?n3 ?n4, ⟨?e1, ?e2, ?e3, ?e4, ?e5, ?e6, ?e7, ?e8⟩, ⟨?x1, ?x2, ?x3, ?x4⟩, ?fw, ?fa⟩
      (K12.oex_mk ?ocl ?oeq ?orf ?osa ?oex ?oty ?okc)
      ?iC ?tI (L2.fun_mk ?lI ?cI ?kI)
      (K12.at_mk (x := "is_prime") (i := 2) (ps := ["number"]) KX G ?a2 ?l2 ?c2 ?k2 (fun _ _ _ _ _ _ us hl => match us, hl with | [_], _ => rfl))
      (K12.at_mk (x := "divisors_in") (i := 3) (ps := ["number"]) KX G ?a3 ?l3 ?c3 ?k3 (fun _ _ _ _ _ _ us hl => match us, hl with | [_], _ => rfl))
      (K12.at_mk (x := "primes_in") (i := 4) (ps := ["number"]) KX G ?a4 ?l4 ?c4 ?k4 (fun _ _ _ _ _ _ us hl => match us, hl with | [_], _ => rfl))
      (K12.at_mk (x := "units_in") (i := 5) (ps := ["number"]) KX G ?a5 ?l5 ?c5 ?k5 (fun _ _ _ _ _ _ us hl => match us, hl with | [_], _ => rfl))
      (K12.at_mk (x := "multiplied") (i := 6) (ps := ["factors"]) KX G ?a6 ?l6 ?c6 ?k6 (fun _ _ _ _ _ _ us hl => match us, hl with | [_], _ => rfl))
      (K12.at_mk (x := "turns_in") (i := 8) (ps := ["clock"]) KX G ?a8 ?l8 ?c8 ?k8 (fun _ _ _ _ _ _ us hl => match us, hl with | [_], _ => rfl))
      (K12.at_mk (x := "edge_in") (i := 9) (ps := ["clock", "a"]) KX G ?a9 ?l9 ?c9 ?k9 (fun _ _ _ _ _ _ us hl => match us, hl with | [_, _], _ => rfl))
      (K12.at_mk (x := "is_integer") (i := 11) (ps := K12.nThing) KX G ?a11 ?l11 ?c11 ?k11 (fun _ _ _ _ _ _ us hl => match us, hl with | [_], _ => rfl))
      (K12.at_mk (x := "is_from_to") (i := 12) (ps := K12.nFT) KX G ?a12 ?l12 ?c12 ?k12 (fun _ _ _ _ _ _ us hl => match us, hl with | [_, _, _], _ => rfl))
      (K12.at_mk (x := "is_divisor") (i := 13) (ps := K12.nDiv) KX G ?a13 ?l13 ?c13 ?k13 (fun _ _ _ _ _ _ us hl => match us, hl with | [_, _], _ => rfl))
      (K12.at_mk (x := "is_pair") (i := 14) (ps := K12.nThing) KX G ?a14 ?l14 ?c14 ?k14 (fun _ _ _ _ _ _ us hl => match us, hl with | [_], _ => rfl))
      (K12.at_mk (x := "is_piece") (i := 15) (ps := K12.nPiece) KX G ?a15 ?l15 ?c15 ?k15 (fun _ _ _ _ _ _ us hl => match us, hl with | [_, _], _ => rfl))
      (K12.at_mk (x := "need") (i := 21) (ps := K12.nNeed) KX G ?a21 ?l21 ?c21 ?k21 (fun _ _ _ _ _ _ us hl => match us, hl with | [_, _], _ => rfl))
      (K12.atK_mk (x := "pieces_of") (i := 23) (ps := ["clock"]) (ks := ["clock"]) (rev := false) KX G ?a23 ?l23 ?c23 ?k23 (fun _ _ _ _ _ _ us hl => match us, hl with | [_], _ => rfl) (fun _ _ _ _ _ _ ws hl => match ws, hl with | [_], _ => rfl))
      (K12.atK_mk (x := "edge_at") (i := 24) (ps := K12.nAt) (ks := ["piece", "clock"]) (rev := true) KX G ?a24 ?l24 ?c24 ?k24 (fun _ _ _ _ _ _ us hl => match us, hl with | [_, _], _ => rfl) (fun _ _ _ _ _ _ ws hl => match ws, hl with | [_, _], _ => rfl))
      (K12.atK_mk (x := "width_at") (i := 25) (ps := K12.nAt) (ks := ["piece", "clock"]) (rev := true) KX G ?a25 ?l25 ?c25 ?k25 (fun _ _ _ _ _ _ us hl => match us, hl with | [_, _], _ => rfl) (fun _ _ _ _ _ _ ws hl => match ws, hl with | [_, _], _ => rfl))
      (K12.atK_mk (x := "grain_at") (i := 26) (ps := K12.nAt) (ks := ["piece", "clock"]) (rev := true) KX G ?a26 ?l26 ?c26 ?k26 (fun _ _ _ _ _ _ us hl => match us, hl with | [_, _], _ => rfl) (fun _ _ _ _ _ _ ws hl => match ws, hl with | [_, _], _ => rfl))
      (K12.atK_mk (x := "pieces_under") (i := 27) (ps := K12.nAt) (ks := ["piece", "clock"]) (rev := true) KX G ?a27 ?l27 ?c27 ?k27 (fun _ _ _ _ _ _ us hl => match us, hl with | [_, _], _ => rfl) (fun _ _ _ _ _ _ ws hl => match ws, hl with | [_, _], _ => rfl))
      (K12.at_mk (x := "_law_draws") (i := 29) (ps := K12.pDraws) KX G ?a29 ?l29 ?c29 ?k29 (fun _ _ _ _ _ _ us hl => match us, hl with | [_, _], _ => rfl))
      (K12.at_mk (x := "_law_same") (i := 30) (ps := K12.pSame) KX G ?a30 ?l30 ?c30 ?k30 (fun _ _ _ _ _ _ us hl => match us, hl with | [_, _], _ => rfl))
      (K12.at_mk (x := "_law_common") (i := 31) (ps := K12.pCom) KX G ?a31 ?l31 ?c31 ?k31 (fun _ _ _ _ _ _ us hl => match us, hl with | [_, _], _ => rfl))
      (K12.at_mk (x := "_law_factors") (i := 32) (ps := K12.pFacs) KX G ?a32 ?l32 ?c32 ?k32 (fun _ _ _ _ _ _ us hl => match us, hl with | [_], _ => rfl))
      (K12.at_mk (x := "_law_square_free") (i := 33) (ps := K12.pSqf) KX G ?a33 ?l33 ?c33 ?k33 (fun _ _ _ _ _ _ us hl => match us, hl with | [_], _ => rfl))
      (K12.at_mk (x := "_law_roots") (i := 34) (ps := K12.pRoots) KX G ?a34 ?l34 ?c34 ?k34 (fun _ _ _ _ _ _ us hl => match us, hl with | [_, _], _ => rfl))
      (K12.at_mk (x := "_law_any_world") (i := 35) (ps := K12.pAny) KX G ?a35 ?l35 ?c35 ?k35 (fun _ _ _ _ _ _ us hl => match us, hl with | [_, _], _ => rfl))
      (K12.at_mk (x := "_law_world") (i := 36) (ps := K12.pWorld) KX G ?a36 ?l36 ?c36 ?k36 (fun _ _ _ _ _ _ us hl => match us, hl with | [_], _ => rfl))
      (K12.at_mk (x := "_law_units") (i := 37) (ps := K12.pUnL) KX G ?a37 ?l37 ?c37 ?k37 (fun _ _ _ _ _ _ us hl => match us, hl with | [_], _ => rfl))
      (K12.at_mk (x := "_law_edge") (i := 38) (ps := K12.pLEdge) KX G ?a38 ?l38 ?c38 ?k38 (fun _ _ _ _ _ _ us hl => match us, hl with | [_, _], _ => rfl))
      (K12.at_mk (x := "_law_grain") (i := 39) (ps := K12.pLGr) KX G ?a39 ?l39 ?c39 ?k39 (fun _ _ _ _ _ _ us hl => match us, hl with | [_, _, _], _ => rfl))
      (K12.at_mk (x := "_law_pieces") (i := 40) (ps := K12.pLP) KX G ?a40 ?l40 ?c40 ?k40 (fun _ _ _ _ _ _ us hl => match us, hl with | [_, _], _ => rfl))
      (K12.at_mk (x := "_law_asked") (i := 41) (ps := K12.pAsk) KX G ?a41 ?l41 ?c41 ?k41 (fun _ _ _ _ _ _ us hl => match us, hl with | [_, _, _], _ => rfl))
      (K12.at_mk (x := "_law_refuses") (i := 42) (ps := K12.pRef) KX G ?a42 ?l42 ?c42 ?k42 (fun _ _ _ _ _ _ us hl => match us, hl with | [_, _, _], _ => rfl))
      (K12.at_mk (x := "_law_hand") (i := 43) (ps := K12.pHand) KX G ?a43 ?l43 ?c43 ?k43 (fun _ _ _ _ _ _ us hl => match us, hl with | [_], _ => rfl))
      (K12.at_mk (x := "_law_told") (i := 44) (ps := K12.pTold) KX G ?a44 ?l44 ?c44 ?k44 (fun _ _ _ _ _ _ us hl => match us, hl with | [_, _, _], _ => rfl))
      (K12.at_mk (x := "_law_near") (i := 45) (ps := K12.pNear) KX G ?a45 ?l45 ?c45 ?k45 (fun _ _ _ _ _ _ us hl => match us, hl with | [_, _, _, _], _ => rfl)))
    (case gn => k_is)
    (case gd => k_is)
    (case iC => k_is)
    (case aL => k_is)
    (case lL => k_is)
    (case cL => k_is)
    (case kL => k_is)
    (case z0 => k_is)
    (case z1 => k_is)
    (case z2 => k_is)
    (case z3 => k_is)
    (case z4 => k_is)
    (case z5 => k_is)
    (case z6 => k_is)
    (case z7 => k_is)
    (case z8 => k_is)
    (case y0 => k_is)
    (case y1 => k_is)
    (case lI => k_is)
    (case cI => k_is)
    (case kI => k_is)
    (case tI => k_is)
    (case ocl => k_is)
    (case oeq => first | rfl | exact rfl)
    (case orf => first | rfl | decide | k_is)
    (case osa => k_is)
    (case oex => k_is)
    (case oty => k_is)
    (case okc => k_is)
    (case e1 => k_is)
    (case e2 => k_is)
    (case e3 => k_is)
    (case e4 => k_is)
    (case e5 => k_is)
    (case e6 => k_is)
    (case e7 => k_is)
    (case e8 => k_is)
    (case x1 => k_is)
    (case x2 => k_is)
    (case x3 => k_is)
    (case x4 => k_is)
    (case fw => k_is)
    (case fa => k_is)
    (case a2 => k_is)
    (case l2 => k_is)
    (case c2 => k_is)
    (case k2 => k_is)
    (case a3 => k_is)
    (case l3 => k_is)
    (case c3 => k_is)
    (case k3 => k_is)
    (case a4 => k_is)
    (case l4 => k_is)
    (case c4 => k_is)
    (case k4 => k_is)
    (case a5 => k_is)
    (case l5 => k_is)
    (case c5 => k_is)
    (case k5 => k_is)
    (case a6 => k_is)
    (case l6 => k_is)
    (case c6 => k_is)
    (case k6 => k_is)
    (case a8 => k_is)
    (case l8 => k_is)
    (case c8 => k_is)
    (case k8 => k_is)
    (case a9 => k_is)
    (case l9 => k_is)
    (case c9 => k_is)
    (case k9 => k_is)
    (case a11 => k_is)
    (case l11 => k_is)
    (case c11 => k_is)
    (case k11 => k_is)
    (case a12 => k_is)
    (case l12 => k_is)
    (case c12 => k_is)
    (case k12 => k_is)
    (case a13 => k_is)
    (case l13 => k_is)
    (case c13 => k_is)
    (case k13 => k_is)
    (case a14 => k_is)
    (case l14 => k_is)
    (case c14 => k_is)
    (case k14 => k_is)
    (case a15 => k_is)
    (case l15 => k_is)
    (case c15 => k_is)
    (case k15 => k_is)
    (case a21 => k_is)
    (case l21 => k_is)
    (case c21 => k_is)
    (case k21 => k_is)
    (case a23 => k_is)
    (case l23 => k_is)
    (case c23 => k_is)
    (case k23 => k_is)
    (case a24 => k_is)
    (case l24 => k_is)
    (case c24 => k_is)
    (case k24 => k_is)
    (case a25 => k_is)
    (case l25 => k_is)
    (case c25 => k_is)
    (case k25 => k_is)
    (case a26 => k_is)
    (case l26 => k_is)
    (case c26 => k_is)
    (case k26 => k_is)
    (case a27 => k_is)
    (case l27 => k_is)
    (case c27 => k_is)
    (case k27 => k_is)
    (case a29 => k_is)
    (case l29 => k_is)
    (case c29 => k_is)
    (case k29 => k_is)
    (case a30 => k_is)
    (case l30 => k_is)
    (case c30 => k_is)
    (case k30 => k_is)
    (case a31 => k_is)
    (case l31 => k_is)
    (case c31 => k_is)
    (case k31 => k_is)
    (case a32 => k_is)
    (case l32 => k_is)
    (case c32 => k_is)
    (case k32 => k_is)
    (case a33 => k_is)
    (case l33 => k_is)
    (case c33 => k_is)
    (case k33 => k_is)
    (case a34 => k_is)
    (case l34 => k_is)
    (case c34 => k_is)
    (case k34 => k_is)
    (case a35 => k_is)
    (case l35 => k_is)
    (case c35 => k_is)
    (case k35 => k_is)
    (case a36 => k_is)
    (case l36 => k_is)
    (case c36 => k_is)
    (case k36 => k_is)
    (case a37 => k_is)
    (case l37 => k_is)
    (case c37 => k_is)
    (case k37 => k_is)
    (case a38 => k_is)
    (case l38 => k_is)
    (case c38 => k_is)
    (case k38 => k_is)
    (case a39 => k_is)
    (case l39 => k_is)
    (case c39 => k_is)
    (case k39 => k_is)
    (case a40 => k_is)
    (case l40 => k_is)
    (case c40 => k_is)
    (case k40 => k_is)
    (case a41 => k_is)
    (case l41 => k_is)
    (case c41 => k_is)
    (case k41 => k_is)
    (case a42 => k_is)
    (case l42 => k_is)
    (case c42 => k_is)
    (case k42 => k_is)
    (case a43 => k_is)
    (case l43 => k_is)
    (case c43 => k_is)
    (case k43 => k_is)
    (case a44 => k_is)
    (case l44 => k_is)
    (case c44 => k_is)
    (case k44 => k_is)
    (case a45 => k_is)
    (case l45 => k_is)
    (case c45 => k_is)
    (case k45 => k_is)
    (case m1 => first | k_is | rfl)
    (case m2 => first | k_is | rfl)
    (case m3 => first | k_is | rfl)
    (case m4 => first | k_is | rfl)
    (case n2 => first | k_is | rfl)
    (case n3 => first | k_is | rfl)
    (case n4 => first | k_is | rfl)
