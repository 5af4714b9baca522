import PyProof.Rows.All
import Wide.All
import OpenK.AllK
import Wide.FinOn
import PySem.Challenge.RW_evenlater_k01_whole_moves_and_beats
import HandS.ForMost
import HandS.Exc
import HandS.WordsExc
import HandS.ExcOwn
import HandS.HotCalls
import HandS.Evl
import HandS.Lambda
import HandS.Deep
import HandS.DeepEq
import HandS.Gcd
import HandS.IsInst
import KE.KMathG
import HandS.RevRange
import HandS.ExcInit
import HandS.ExcInitHot
import HandS.ExcField
import HandS.ExcIs
import PyProof.Rows.SetFrom
import PyProof.ReprRoads
import PyProof.ReprBulk
import PyProof.CallFns
import HandS.Style
import HandS.EndTab
import HandS.NestedK
set_option Elab.async false
set_option linter.all false
set_option maxRecDepth 100000
set_option maxHeartbeats 4000000
/-! The layer of pure values: what an expression or a statement gives, told without the heap. -/
namespace VL
open PySem PySem.Spec PyProof.Rows L2
/-- the tables of code objects that are known, with the names that they tell -/
class Tb where
  T : List (Addr × Str)
variable [Tb]
/-- what is known stays, but the tables, which stay tables -/
structure Ex (H H' : Hp) : Prop where
  st : ∀ b o, H b = some o → (∀ ps, o ≠ .tbl ps) → H' b = some o
  tb : LamX.Tabs Tb.T H → LamX.Tabs Tb.T H'
theorem Ex.refl (H : Hp) : Ex H H := ⟨fun _ _ h _ => h, fun h => h⟩
theorem Ex.trans {H H1 H2 : Hp} (a : Ex H H1) (b : Ex H1 H2) : Ex H H2 := ⟨fun x o h n => b.st x o (a.st x o h n) n, fun h => b.tb (a.tb h)⟩
theorem Ex.of {H H' : Hp} (e : ∀ b o, H b = some o → H' b = some o) : Ex H H' := ⟨fun b o h _ => e b o h, fun t => t.ext e⟩
theorem Ex.new {H : Hp} {p : Addr} {o : HO} (h : H p = none) : Ex H (upd H p o) := Ex.of fun a u e => by
  rw [upd_ne (ne_of_none e h)]
  exact e
/-- nothing is known there, but a table perhaps; a thing but no table is known there -/
def Fr (H : Hp) (p : Addr) : Prop := ∀ o, H p = some o → ∃ ps, o = .tbl ps
def Kn (H : Hp) (p : Addr) : Prop := ∃ o, H p = some o ∧ ∀ ps, o ≠ .tbl ps
theorem Fr.of {H : Hp} {p : Addr} (h : H p = none) : Fr H p := fun o e => by rw [h] at e; cases e
theorem Fr.no {H : Hp} {p : Addr} (f : Fr H p) (k : Kn H p) : False := by
  obtain ⟨o, h, n⟩ := k
  obtain ⟨ps, e⟩ := f o h
  exact n ps e
theorem Fr.lst {H : Hp} {p : Addr} {xs : List V} (f : Fr H p) (h : H p = some (.lst xs)) : False := f.no ⟨_, h, fun _ z => by cases z⟩
theorem Kn.ex {H H' : Hp} {p : Addr} (e : Ex H H') (k : Kn H p) : Kn H' p := let ⟨o, h, n⟩ := k; ⟨o, e.st _ _ h n, n⟩
/-- tables stay when a list changes -/
theorem tabs_mut {T : List (Addr × Str)} {H : Hp} {p : Addr} {xs ys : List V} (h : H p = some (.lst xs)) (t : LamX.Tabs T H) : LamX.Tabs T (upd H p (.lst ys)) := fun q hq => by
  obtain ⟨ps, h1, h2, h3⟩ := t q hq
  refine ⟨ps, (upd_ne (fun z => by rw [z, h] at h1; cases h1)).trans h1, h2, fun pos cv hc => ?_⟩
  obtain ⟨c, e1, e2⟩ := h3 pos cv hc
  exact ⟨c, e1, (upd_ne (fun z => by rw [z, h] at e2; unfold LamX.CodeO at e2; cases e2)).trans e2⟩
/-- an object that H does not know may change -/
theorem Ex.mut {H H' : Hp} {p : Addr} {xs ys : List V} (e : Ex H H') (h : Fr H p) (h' : H' p = some (.lst xs)) : Ex H (upd H' p (.lst ys)) := ⟨fun a u ha n => by
  rw [upd_ne (fun z => h.no ⟨u, by rw [← z]; exact ha, n⟩)]
  exact e.st a u ha n, fun t => tabs_mut h' (e.tb t)⟩
theorem Ex.lst {H H' : Hp} {a : Addr} {xs : List V} (e : Ex H H') (h : H a = some (.lst xs)) : H' a = some (.lst xs) := e.st _ _ h fun _ z => by cases z
theorem Ex.tup {H H' : Hp} {a : Addr} {xs : List V} (e : Ex H H') (h : H a = some (.tup xs)) : H' a = some (.tup xs) := e.st _ _ h fun _ z => by cases z
theorem Ex.xd {H H' : Hp} {a : Addr} {xs : List (Str × V)} (e : Ex H H') (h : H a = some (.xd xs)) : H' a = some (.xd xs) := e.st _ _ h fun _ z => by cases z
theorem ex_rd {H H' : Hp} {a : Addr} {u : HO} (e : Ex H H') (h : Rd H a u) (n : ∀ ps, u ≠ .tbl ps) : Rd H' a u := by
  rcases h with h | ⟨o, h⟩
  · exact Or.inl (e.st a _ h n)
  · exact Or.inr ⟨o, e.st a _ h fun ps z => by cases z⟩
theorem ex_l {K : PySem.W.Frag} {H H' : Hp} {a : Addr} {xs : List V} (e : Ex H H') (h : SqL K H a xs) : SqL K H' a xs := by
  rcases h with h | h
  · exact Or.inl (ex_rd e h fun ps z => by cases z)
  · exact Or.inr h
theorem ex_t {K : PySem.W.Frag} {H H' : Hp} {a : Addr} {xs : List V} (e : Ex H H') (h : SqT K H a xs) : SqT K H' a xs := by
  rcases h with h | h
  · exact Or.inl (ex_rd e h fun ps z => by cases z)
  · exact Or.inr h
theorem fresh_back {H H' : Hp} {p : Addr} (e : Ex H H') (h : Fr H' p) : Fr H p := fun o h1 => Classical.byContradiction fun n => h.no ⟨o, e.st p o h1 fun ps z => n ⟨ps, z⟩, fun ps z => n ⟨ps, z⟩⟩
open L2H (RoomH HotC FnH)
inductive PV where
  | non | bl (b : Bool) | int (i : Int) | str (x : Str) | tup (xs : List PV) | lst (xs : List PV)
  /-- a caught exception: its place, its class, its own dict, its fields -/
  | exc (a C d : Addr) (ns : List Str) (xs : List PV)
  | rng (lo hi : Int)
abbrev Bd := Addr → Prop
/-- a list of the top's written part -/
def KL (K : PySem.W.Frag) (a : Addr) (xs : List V) : Prop :=
  ∃ (o : Obj) (its : Array Value) (n : Nat), K.lookup a = some o ∧ o.cls = .type "list" ∧ o.dict = none ∧ o.data = .seq its n ∧ its.size ≤ sizeLine ∧ Vals xs its.toList
def LsR (K : PySem.W.Frag) (H : Hp) (B : Bd) (a : Addr) (vs : List V) : Prop := (¬ B a ∧ Rd H a (.lst vs)) ∨ KL K a vs
theorem LsR.sq {K : PySem.W.Frag} {H : Hp} {B : Bd} {a : Addr} {vs : List V} (h : LsR K H B a vs) : SqL K H a vs := h.elim (fun h => .inl h.2) .inr
inductive VRs (K : PySem.W.Frag) (H : Hp) (B : Bd) : List V → List PV → Prop
  | nil : VRs K H B [] []
  | non {vs ps} : VRs K H B vs ps → VRs K H B (.non :: vs) (.non :: ps)
  | bl {b vs ps} : VRs K H B vs ps → VRs K H B (.bl b :: vs) (.bl b :: ps)
  | int {i vs ps} : VRs K H B vs ps → VRs K H B (.int i :: vs) (.int i :: ps)
  | str {x vs ps} : VRs K H B vs ps → VRs K H B (.str x :: vs) (.str x :: ps)
  | tup {a ws xs vs ps} : SqT K H a ws → VRs K H B ws xs → VRs K H B vs ps → VRs K H B (.ref a :: vs) (.tup xs :: ps)
  | lst {a ws xs vs ps} : LsR K H B a ws → VRs K H B ws xs → VRs K H B vs ps → VRs K H B (.ref a :: vs) (.lst xs :: ps)
  | rng {a lo hi vs ps} : H a = some (.rng lo hi) → VRs K H B vs ps → VRs K H B (.ref a :: vs) (.rng lo hi :: ps)
  | exc {a C d ns ws xs vs ps} : H d = some (.xd (ns.zip ws)) → ws.length = ns.length → VRs K H B ws xs → VRs K H B vs ps → VRs K H B (.ref a :: vs) (.exc a C d ns xs :: ps)
def VR (K : PySem.W.Frag) (H : Hp) (B : Bd) (v : V) (p : PV) : Prop := VRs K H B [v] [p]
section
variable {K : PySem.W.Frag} {H H' : Hp} {B B' : Bd} {v : V} {p : PV} {vs : List V} {ps : List PV}
theorem VRs.cons (h : VR K H B v p) (t : VRs K H B vs ps) : VRs K H B (v :: vs) (p :: ps) := by
  cases h with
  | non _ => exact .non t
  | bl _ => exact .bl t
  | int _ => exact .int t
  | str _ => exact .str t
  | tup h1 h2 _ => exact .tup h1 h2 t
  | lst h1 h2 _ => exact .lst h1 h2 t
  | rng h1 _ => exact .rng h1 t
  | exc h1 h2 h3 _ => exact .exc h1 h2 h3 t
theorem VRs.head (h : VRs K H B (v :: vs) (p :: ps)) : VR K H B v p := by
  cases h with
  | non _ => exact .non .nil
  | bl _ => exact .bl .nil
  | int _ => exact .int .nil
  | str _ => exact .str .nil
  | tup h1 h2 _ => exact .tup h1 h2 .nil
  | lst h1 h2 _ => exact .lst h1 h2 .nil
  | rng h1 _ => exact .rng h1 .nil
  | exc h1 h2 h3 _ => exact .exc h1 h2 h3 .nil
theorem VRs.tail (h : VRs K H B (v :: vs) (p :: ps)) : VRs K H B vs ps := by
  cases h with
  | non t => exact t
  | bl t => exact t
  | int t => exact t
  | str t => exact t
  | tup _ _ t => exact t
  | lst _ _ t => exact t
  | rng _ t => exact t
  | exc _ _ _ t => exact t
theorem VRs.length (h : VRs K H B vs ps) : vs.length = ps.length := by
  induction h with
  | nil => rfl
  | non _ ih => simp [ih]
  | bl _ ih => simp [ih]
  | int _ ih => simp [ih]
  | str _ ih => simp [ih]
  | tup _ _ _ _ ih => simp [ih]
  | lst _ _ _ _ ih => simp [ih]
  | rng _ _ ih => simp [ih]
  | exc _ _ _ _ _ ih => simp [ih]
theorem VRs.get : ∀ {vs : List V} {ps : List PV} {i : Nat} {p : PV}, VRs K H B vs ps → ps[i]? = some p → ∃ v, vs[i]? = some v ∧ VR K H B v p
  | [], _, i, p, h, e => by cases h; simp at e
  | v :: vs, [], i, p, h, e => by cases h
  | v :: vs, q :: ps, 0, p, h, e => by
    simp at e; subst e
    exact ⟨v, rfl, h.head⟩
  | v :: vs, q :: ps, i + 1, p, h, e => by
    obtain ⟨u, h1, h2⟩ := VRs.get (i := i) h.tail (by simpa using e)
    exact ⟨u, by simpa using h1, h2⟩
theorem VRs.append {ws : List V} {qs : List PV} : ∀ {vs : List V} {ps : List PV}, VRs K H B vs ps → VRs K H B ws qs → VRs K H B (vs ++ ws) (ps ++ qs)
  | [], [], _, t => t
  | [], _ :: _, h, _ => nomatch h
  | _ :: _, [], h, _ => nomatch h
  | _ :: _, _ :: _, h, t => VRs.cons h.head (VRs.append h.tail t)
theorem VRs.set {u : V} {q : PV} (r : VR K H B u q) : ∀ {vs : List V} {ps : List PV} (i : Nat), VRs K H B vs ps → VRs K H B (vs.set i u) (ps.set i q)
  | [], [], _, _ => .nil
  | [], _ :: _, _, h => nomatch h
  | _ :: _, [], _, h => nomatch h
  | _ :: _, _ :: _, 0, h => VRs.cons r h.tail
  | _ :: _, _ :: _, i + 1, h => VRs.cons h.head (VRs.set r i h.tail)
theorem VRs.ext (e : Ex H H') (h : VRs K H B vs ps) : VRs K H' B vs ps := by
  induction h with
  | nil => exact .nil
  | non _ ih => exact .non ih
  | bl _ ih => exact .bl ih
  | int _ ih => exact .int ih
  | str _ ih => exact .str ih
  | tup a _ _ ih1 ih2 => exact .tup (VL.ex_t e a) ih1 ih2
  | lst a _ _ ih1 ih2 => exact .lst (a.elim (fun a => .inl ⟨a.1, VL.ex_rd e a.2 (fun ps z => by cases z)⟩) .inr) ih1 ih2
  | rng a _ ih => exact .rng (e.st _ _ a fun _ z => by cases z) ih
  | exc a b _ _ ih1 ih2 => exact .exc (e.xd a) b ih1 ih2
theorem VRs.anti (e : ∀ a, B' a → B a) (h : VRs K H B vs ps) : VRs K H B' vs ps := by
  induction h with
  | nil => exact .nil
  | non _ ih => exact .non ih
  | bl _ ih => exact .bl ih
  | int _ ih => exact .int ih
  | str _ ih => exact .str ih
  | tup a _ _ ih1 ih2 => exact .tup a ih1 ih2
  | lst a _ _ ih1 ih2 => exact .lst (a.elim (fun a => .inl ⟨fun z => a.1 (e _ z), a.2⟩) .inr) ih1 ih2
  | rng a _ ih => exact .rng a ih
  | exc a b _ _ ih1 ih2 => exact .exc a b ih1 ih2
theorem rd_some {H : Hp} {a : Addr} {u : HO} (h : Rd H a u) : ∃ o, H a = some o := h.elim (fun h => ⟨_, h⟩) fun ⟨o, h⟩ => ⟨_, h⟩
/-- a new forbidden place -/
theorem VRs.grow {q : Addr} (n : Fr H q) (h : VRs K H B vs ps) : VRs K H (fun a => B a ∨ a = q) vs ps := by
  induction h with
  | nil => exact .nil
  | non _ ih => exact .non ih
  | bl _ ih => exact .bl ih
  | int _ ih => exact .int ih
  | str _ ih => exact .str ih
  | tup a _ _ ih1 ih2 => exact .tup a ih1 ih2
  | lst a _ _ ih1 ih2 =>
    refine .lst (a.elim (fun a => .inl ⟨fun z => z.elim a.1 fun z => ?_, a.2⟩) .inr) ih1 ih2
    rcases a.2 with r | ⟨o, r⟩
    · exact n.no ⟨_, z ▸ r, fun _ z => by cases z⟩
    · exact n.no ⟨_, z ▸ r, fun _ z => by cases z⟩
  | rng a _ ih => exact .rng a ih
  | exc a b _ _ ih1 ih2 => exact .exc a b ih1 ih2
/-- the content of a forbidden list changes -/
theorem VRs.mut {q : Addr} {ys zs : List V} (b : B q) (n : H q = some (.lst ys)) (h : VRs K H B vs ps) : VRs K (upd H q (.lst zs)) B vs ps := by
  have rt : ∀ {a : Addr} {ws : List V}, Rd H a (.tup ws) → Rd (upd H q (.lst zs)) a (.tup ws) := fun {a ws} r => by
    rcases r with r | ⟨o, r⟩
    · exact .inl ((upd_ne (fun z => by rw [z, n] at r; cases r)).trans r)
    · exact .inr ⟨o, (upd_ne (fun z => by rw [z, n] at r; cases r)).trans r⟩
  have rl : ∀ {a : Addr} {ws : List V}, ¬ B a → Rd H a (.lst ws) → Rd (upd H q (.lst zs)) a (.lst ws) := fun {a ws} nb r => by
    have ne : a ≠ q := fun z => nb (z ▸ b)
    rcases r with r | ⟨o, r⟩
    · exact .inl ((upd_ne ne).trans r)
    · exact .inr ⟨o, (upd_ne ne).trans r⟩
  induction h with
  | nil => exact .nil
  | non _ ih => exact .non ih
  | bl _ ih => exact .bl ih
  | int _ ih => exact .int ih
  | str _ ih => exact .str ih
  | tup a _ _ ih1 ih2 => exact .tup (a.elim (fun a => .inl (rt a)) .inr) ih1 ih2
  | lst a _ _ ih1 ih2 => exact .lst (a.elim (fun a => .inl ⟨a.1, rl a.1 a.2⟩) .inr) ih1 ih2
  | rng a _ ih => exact .rng ((upd_ne (fun z => by rw [z, n] at a; cases a)).trans a) ih
  | exc a b' _ _ ih1 ih2 => exact .exc ((upd_ne (fun z => by rw [z, n] at a; cases a)).trans a) b' ih1 ih2
theorem VR.ext (e : Ex H H') (h : VR K H B v p) : VR K H' B v p := VRs.ext e h
theorem VR.anti (e : ∀ a, B' a → B a) (h : VR K H B v p) : VR K H B' v p := VRs.anti e h
theorem vr_int {i : Int} (h : VR K H B v (.int i)) : v = .int i := by cases h; rfl
theorem vr_bl {b : Bool} (h : VR K H B v (.bl b)) : v = .bl b := by cases h; rfl
theorem vr_non (h : VR K H B v .non) : v = .non := by cases h; rfl
theorem vr_str {x : Str} (h : VR K H B v (.str x)) : v = .str x := by cases h; rfl
theorem vr_tup {xs : List PV} (h : VR K H B v (.tup xs)) : ∃ a ws, v = .ref a ∧ SqT K H a ws ∧ VRs K H B ws xs := by
  cases h with
  | tup a b _ => exact ⟨_, _, rfl, a, b⟩
theorem vr_lst {xs : List PV} (h : VR K H B v (.lst xs)) : ∃ a ws, v = .ref a ∧ LsR K H B a ws ∧ VRs K H B ws xs := by
  cases h with
  | lst a b _ => exact ⟨_, _, rfl, a, b⟩
theorem vr_exc {a C d : Addr} {ns : List Str} {xs : List PV} (h : VR K H B v (.exc a C d ns xs)) : v = .ref a ∧ ∃ ws, H d = some (.xd (ns.zip ws)) ∧ ws.length = ns.length ∧ VRs K H B ws xs := by
  cases h with
  | exc h1 h2 h3 _ => exact ⟨rfl, _, h1, h2, h3⟩
theorem VR.i {i : Int} : VR K H B (.int i) (.int i) := .int .nil
theorem VR.b {b : Bool} : VR K H B (.bl b) (.bl b) := .bl .nil
theorem VR.n : VR K H B .non .non := .non .nil
theorem VR.s {x : Str} : VR K H B (.str x) (.str x) := .str .nil
theorem VR.t {a : Addr} {ws : List V} {xs : List PV} (h : SqT K H a ws) (r : VRs K H B ws xs) : VR K H B (.ref a) (.tup xs) := .tup h r .nil
theorem VR.l {a : Addr} {ws : List V} {xs : List PV} (h : LsR K H B a ws) (r : VRs K H B ws xs) : VR K H B (.ref a) (.lst xs) := .lst h r .nil
theorem VRs.ints : ∀ {ns : List Int}, VRs K H B (ns.map V.int) (ns.map PV.int)
  | [] => .nil
  | _ :: _ => .int VRs.ints
end
/-! ### slots -/
inductive Sl where
  | no | val (p : PV) | ow (pin : Option Addr) (xs : List PV)
abbrev Sl.own (xs : List PV) : Sl := .ow none xs
/-- what lies under a body: what may not be touched, the heap at its entry, values that are kept by -/
structure Und where
  B0 : Bd
  H0 : Hp
  gs : List (V × PV)
structure EnvR (K : PySem.W.Frag) (U : Und) (B : Bd) (H : Hp) (σ : L2.St) (ρ : List Sl) : Prop where
  len : σ.length = ρ.length
  up : ∀ b, U.B0 b → B b
  trk0 : ∀ b, U.B0 b → Kn U.H0 b
  trk : ∀ b, B b → Kn H b
  ex : Ex U.H0 H
  tabs : LamX.Tabs Tb.T H
  gh : ∀ g ∈ U.gs, VR K H B g.1 g.2
  val : ∀ (i : Nat) (p : PV), ρ[i]? = some (.val p) → ∃ v, σ[i]? = some (some v) ∧ VR K H B v p
  own : ∀ (i : Nat) (pin : Option Addr) (xs : List PV), ρ[i]? = some (.ow pin xs) → ∃ a vs, σ[i]? = some (some (.ref a)) ∧ H a = some (.lst vs) ∧ B a ∧ Fr U.H0 a ∧ VRs K H B vs xs ∧ ∀ b, pin = some b → a = b
  dis : ∀ (i j : Nat) (pi pj : Option Addr) (xs ys : List PV) (a : Addr), ρ[i]? = some (.ow pi xs) → ρ[j]? = some (.ow pj ys) → σ[i]? = some (some (.ref a)) → σ[j]? = some (some (.ref a)) → i = j
section
variable {K : PySem.W.Frag} {U : Und} {B : Bd} {H H' : Hp} {σ : L2.St} {ρ : List Sl}
theorem EnvR.mono (E : EnvR K U B H σ ρ) (e : Ex H H') : EnvR K U B H' σ ρ where
  len := E.len
  up := E.up
  trk0 := E.trk0
  trk := fun b z => (E.trk b z).ex e
  ex := E.ex.trans e
  tabs := e.tb E.tabs
  gh := fun g h => (E.gh g h).ext e
  val := fun i p h => let ⟨v, a, b⟩ := E.val i p h; ⟨v, a, b.ext e⟩
  own := fun i pin xs h => let ⟨a, vs, h1, h2, h3, h4, h5, h6⟩ := E.own i pin xs h; ⟨a, vs, h1, e.lst h2, h3, h4, h5.ext e, h6⟩
  dis := E.dis
theorem EnvR.fresh (E : EnvR K U B H σ ρ) {a : Addr} (n : Fr H a) : ¬ B a := fun z => n.no (E.trk a z)
/-- a slot is set -/
theorem EnvR.set (E : EnvR K U B H σ ρ) {i : Nat} {v : V} {p : PV} (r : VR K H B v p) : EnvR K U B H (σ.set i (some v)) (ρ.set i (.val p)) where
  len := by rw [List.length_set, List.length_set]; exact E.len
  up := E.up
  trk0 := E.trk0
  trk := E.trk
  ex := E.ex
  tabs := E.tabs
  gh := E.gh
  val := fun j q h => by
    by_cases e : i = j
    · subst e
      have hl : i < ρ.length := by
        rcases Nat.lt_or_ge i ρ.length with hl | hl
        · exact hl
        · rw [List.getElem?_eq_none (by rw [List.length_set]; exact hl)] at h; cases h
      rw [List.getElem?_set_self hl] at h
      cases h
      exact ⟨v, List.getElem?_set_self (by rw [E.len]; exact hl), r⟩
    · rw [List.getElem?_set_ne e] at h
      rw [List.getElem?_set_ne e]
      exact E.val j q h
  own := fun j pin xs h => by
    by_cases e : i = j
    · subst e
      by_cases hl : i < ρ.length
      · rw [List.getElem?_set_self hl] at h; cases h
      · rw [List.getElem?_eq_none (by rw [List.length_set]; exact Nat.le_of_not_lt hl)] at h; cases h
    · rw [List.getElem?_set_ne e] at h
      rw [List.getElem?_set_ne e]
      exact E.own j pin xs h
  dis := fun j k pj pk xs ys a h1 h2 => by
    have ne : ∀ {j : Nat} {pj : Option Addr} {xs : List PV}, (ρ.set i (.val p))[j]? = some (.ow pj xs) → i ≠ j := fun {j pj xs} h e => by
      subst e
      by_cases hl : i < ρ.length
      · rw [List.getElem?_set_self hl] at h; cases h
      · rw [List.getElem?_eq_none (by rw [List.length_set]; exact Nat.le_of_not_lt hl)] at h; cases h
    have n1 := ne h1
    have n2 := ne h2
    rw [List.getElem?_set_ne n1] at h1 ⊢
    rw [List.getElem?_set_ne n2] at h2 ⊢
    exact E.dis j k pj pk xs ys a h1 h2
end
/-! ### where one stands -/
structure Gam where
  P : Program
  w : World
  K : PySem.W.Frag
  mg : Str → Option Value
  base : Heap
  N : List Str
  sc : Scope
  fn : Str → Bool
  k : Nat
  calm : Bool
  ex : Cx → Prop
structure Fits (G : Gam) (X : Cx) : Prop where
  prog : X.prog = G.P
  w : X.w = G.w
  K : X.K = G.K
  mg : X.mg = G.mg
  base : X.base = G.base
  N : X.N = G.N
  sc : X.env.scope = G.sc
  fn : X.fn = G.fn
  calm : X.calm = G.calm
  nd : G.N.Nodup
  gd : X.A.guards = some []
  roomH : RoomH G.k X.A
  room : G.calm = true → Room G.k X.A
  hot : G.calm = false → HotC X
  ex : G.ex X
/-! ### what is asked, as it is -/
@[irreducible] def wE (X : Cx) (e : Expr) : TE := fun σ H Q => ∀ (pins : List (Addr × Obj)) (s : Shared), Inv X pins σ H s → wpAny (model X.prog X.w) X.A (eval e X.env) (EP X pins σ Q) X.xe s
@[irreducible] def wT (X : Cx) (e : Expr) : TT := fun σ H Q => ∀ (pins : List (Addr × Obj)) (s : Shared), Inv X pins σ H s → wpAny (model X.prog X.w) X.A (isTrue e X.env (eval e X.env)) (TP X pins σ Q) X.xe s
@[irreducible] def wW (X : Cx) (e : Expr) : TT := fun σ H Q => ∀ (whole : Sem Value) (pins : List (Addr × Obj)) (s : Shared), Inv X pins σ H s → wpAny (model X.prog X.w) X.A (isTrue e X.env whole) (TP X pins σ Q) X.xe s
@[irreducible] def wA (X : Cx) (es : List Expr) : TA := fun σ H Q => ∀ (pos : Pos) (pins : List (Addr × Obj)) (s : Shared), Inv X pins σ H s → wpAny (model X.prog X.w) X.A (spliced (backTo pos (starEach es X.env))) (AP X pins σ Q) X.xe s
@[irreducible] def wS (X : Cx) (st : Stmt) : TS := fun D σ H => ∀ (pins : List (Addr × Obj)) (s : Shared), Inv X pins σ H s → wpAny (model X.prog X.w) X.A (exec st X.env) (SP X pins D) X.xe s
@[irreducible] def wB (X : Cx) (st : List Stmt) : TS := fun D σ H => ∀ (pins : List (Addr × Obj)) (s : Shared), Inv X pins σ H s → wpAny (model X.prog X.w) X.A (execs st X.env) (SP X pins D) X.xe s
section
variable {X : Cx} {e : Expr} {es : List Expr} {st : Stmt} {sts : List Stmt} {σ : L2.St} {H : Hp}
theorem pe_w : PE X e (wE X e) := ⟨fun pins s _ _ _ I h => by
  unfold wE at h
  exact h pins s I⟩
theorem pt_w : PT X e (wT X e) := ⟨fun pins s _ _ _ I h => by
  unfold wT at h
  exact h pins s I⟩
theorem pw_w : PW X e (wW X e) := ⟨fun wh pins s _ _ _ I h => by
  unfold wW at h
  exact h wh pins s I⟩
theorem pa_w : PA X es (wA X es) := ⟨fun pos pins s _ _ _ I h => by
  unfold wA at h
  exact h pos pins s I⟩
theorem ps_w : PS X st (wS X st) := ⟨fun pins s _ _ _ I h => by
  unfold wS at h
  exact h pins s I⟩
theorem pss_w : PSs X sts (wB X sts) := ⟨fun pins s _ _ _ I h => by
  unfold wB at h
  exact h pins s I⟩
theorem of_pe {t : TE} {Q : VK} (h : PE X e t) (q : t σ H Q) : wE X e σ H Q := by
  unfold wE
  exact fun pins s I => h.run pins s σ H Q I q
theorem of_pt {t : TT} {Q : Bool → Hp → Prop} (h : PT X e t) (q : t σ H Q) : wT X e σ H Q := by
  unfold wT
  exact fun pins s I => h.run pins s σ H Q I q
theorem of_pw {t : TT} {Q : Bool → Hp → Prop} (h : PW X e t) (q : t σ H Q) : wW X e σ H Q := by
  unfold wW
  exact fun wh pins s I => h.run wh pins s σ H Q I q
theorem of_pa {t : TA} {Q : List V → Hp → Prop} (h : PA X es t) (q : t σ H Q) : wA X es σ H Q := by
  unfold wA
  exact fun pos pins s I => h.run pos pins s σ H Q I q
theorem of_ps {t : TS} {D : Ends} (h : PS X st t) (q : t D σ H) : wS X st D σ H := by
  unfold wS
  exact fun pins s I => h.run pins s σ H D I q
theorem of_pss {t : TS} {D : Ends} (h : PSs X sts t) (q : t D σ H) : wB X sts D σ H := by
  unfold wB
  exact fun pins s I => h.run pins s σ H D I q
end
/-! ### what comes of it -/
def EV (G : Gam) (ρ : List Sl) (e : Expr) (p : PV) : Prop := ∀ X, Fits G X → ∀ (U : Und) (B : Bd) (σ : L2.St) (H : Hp) (Q : VK), EnvR G.K U B H σ ρ → (∀ v H', Ex H H' → VR G.K H' B v p → Q v H') → wE X e σ H Q
def TV (G : Gam) (ρ : List Sl) (e : Expr) (b : Bool) : Prop := ∀ X, Fits G X → ∀ (U : Und) (B : Bd) (σ : L2.St) (H : Hp) (Q : Bool → Hp → Prop), EnvR G.K U B H σ ρ → (∀ H', Ex H H' → Q b H') → wT X e σ H Q
def WV (G : Gam) (ρ : List Sl) (e : Expr) (b : Bool) : Prop := ∀ X, Fits G X → ∀ (U : Und) (B : Bd) (σ : L2.St) (H : Hp) (Q : Bool → Hp → Prop), EnvR G.K U B H σ ρ → (∀ H', Ex H H' → Q b H') → wW X e σ H Q
def AV (G : Gam) (ρ : List Sl) (es : List Expr) (ps : List PV) : Prop := ∀ X, Fits G X → ∀ (U : Und) (B : Bd) (σ : L2.St) (H : Hp) (Q : List V → Hp → Prop), EnvR G.K U B H σ ρ → (∀ vs H', Ex H H' → VRs G.K H' B vs ps → Q vs H') → wA X es σ H Q
end VL
namespace VL
open PySem PySem.Spec PyProof.Rows L2
variable [Tb]
open L2H (RoomH HotC FnH)
section
variable {G : Gam} {ρ : List Sl} {a b c e : Expr} {es rest : List Expr} {pos : Pos} {i j : Int} {p q r : PV} {x y : Bool}
/-! ### names, constants -/
theorem ev_var {n : Nat} {x : Str} (hN : G.N[n]? = some x) (hv : Vis G.sc x) (h : ρ[n]? = some (.val p)) (hd : (x == ("__debug__" : Str)) = false := by decide) (hc : (x == ("__classdict__" : Str)) = false := by decide) : EV G ρ (.Name x pos) p := by
  intro X hX U B σ H Q E q
  obtain ⟨v, e, r⟩ := E.val n p h
  exact of_pe (pe_var (i := n) (by rw [hX.N]; exact hN) (by rw [hX.sc]; exact hv) hd hc) ⟨v, e, q v H (Ex.refl H) r⟩
theorem ev_int {k : Nat} : EV G ρ (.Constant (.int i) k pos) (.int i) := fun X hX U B σ H Q E q => of_pe pe_int (q _ H (Ex.refl H) .i)
theorem ev_bl {k : Nat} : EV G ρ (.Constant (.bool x) k pos) (.bl x) := fun X hX U B σ H Q E q => of_pe pe_bl (q _ H (Ex.refl H) .b)
theorem ev_non {k : Nat} : EV G ρ (.Constant .none k pos) .non := fun X hX U B σ H Q E q => of_pe pe_non (q _ H (Ex.refl H) .n)
theorem ev_str {k : Nat} {z : Str} : EV G ρ (.Constant (.str z) k pos) (.str z) := fun X hX U B σ H Q E q => of_pe pe_str (q _ H (Ex.refl H) .s)
/-! ### two values and an operation on them -/
theorem ev2 {t : TE → TE → TE} {R : V → V → Hp → VK → Prop} (hp : ∀ X, Fits G X → PE X e (fun σ H Q => wE X a σ H fun v H1 => wE X b σ H1 fun w H2 => R v w H2 Q)) (ha : EV G ρ a p) (hb : EV G ρ b q)
    (hR : ∀ (B : Bd) v w H (Q : VK), VR G.K H B v p → VR G.K H B w q → (∀ z H', Ex H H' → VR G.K H' B z r → Q z H') → R v w H Q) : EV G ρ e r := by
  intro X hX U B σ H Q E k
  refine of_pe (hp X hX) ?_
  refine ha X hX _ _ _ _ _ E fun v H1 e1 r1 => ?_
  refine hb X hX _ _ _ _ _ (E.mono e1) fun w H2 e2 r2 => ?_
  exact hR B v w H2 Q (r1.ext e2) r2 fun z H3 e3 r3 => k z H3 ((e1.trans e2).trans e3) r3
theorem ev_op {op : Operator} {R : R2} (ho : ∀ X, Fits G X → OpR X (binaryOp op) R) (ha : EV G ρ a p) (hb : EV G ρ b q)
    (hR : ∀ (B : Bd) v w H (Q : VK), VR G.K H B v p → VR G.K H B w q → (∀ z H', Ex H H' → VR G.K H' B z r → Q z H') → R v w H Q) : EV G ρ (.BinOp a op b pos) r :=
  ev2 (t := fun _ _ _ _ _ => True) (fun X hX => pe_op (ho X hX) pe_w pe_w) ha hb hR
theorem ev_add (ha : EV G ρ a (.int i)) (hb : EV G ρ b (.int j)) : EV G ρ (.BinOp a .Add b pos) (.int (i + j)) :=
  ev_op (fun _ _ => op_add) ha hb fun B v w H Q r1 r2 k => ⟨i, j, vr_int r1, vr_int r2, k _ _ (Ex.refl H) .i⟩
theorem ev_sub (ha : EV G ρ a (.int i)) (hb : EV G ρ b (.int j)) : EV G ρ (.BinOp a .Sub b pos) (.int (i - j)) :=
  ev_op (fun _ _ => op_sub) ha hb fun B v w H Q r1 r2 k => ⟨i, j, vr_int r1, vr_int r2, k _ _ (Ex.refl H) .i⟩
theorem ev_mul (ha : EV G ρ a (.int i)) (hb : EV G ρ b (.int j)) (hc : CMul i j) : EV G ρ (.BinOp a .Mult b pos) (.int (i * j)) :=
  ev_op (fun _ _ => op_mul) ha hb fun B v w H Q r1 r2 k => ⟨i, j, vr_int r1, vr_int r2, hc, k _ _ (Ex.refl H) .i⟩
theorem ev_fdiv (ha : EV G ρ a (.int i)) (hb : EV G ρ b (.int j)) (hc : CDiv i j) : EV G ρ (.BinOp a .FloorDiv b pos) (.int (i / j)) :=
  ev_op (fun _ _ => op_fdiv) ha hb fun B v w H Q r1 r2 k => ⟨i, j, vr_int r1, vr_int r2, hc, k _ _ (Ex.refl H) .i⟩
theorem ev_mod (ha : EV G ρ a (.int i)) (hb : EV G ρ b (.int j)) (hc : 0 < j) : EV G ρ (.BinOp a .Mod b pos) (.int (i % j)) :=
  ev_op (fun _ _ => op_mod) ha hb fun B v w H Q r1 r2 k => ⟨i, j, vr_int r1, vr_int r2, hc, k _ _ (Ex.refl H) .i⟩
theorem ev_neg (ha : EV G ρ a (.int i)) : EV G ρ (.UnaryOp .USub a pos) (.int (-i)) := by
  intro X hX U B σ H Q E k
  refine of_pe (pe_un un_neg pe_w) (ha X hX _ _ _ _ _ E fun v H1 e1 r1 => ?_)
  exact ⟨i, vr_int r1, k _ _ e1 .i⟩
/-! ### comparisons -/
theorem ev_cmp {op : CmpOp} {R : R2} (ho : ∀ X, Fits G X → OpR X (compareOp op) R) (ha : EV G ρ a p) (hb : EV G ρ b q) (hm : behindInMarks op b = false)
    (hR : ∀ (B : Bd) v w H (Q : VK), VR G.K H B v p → VR G.K H B w q → Q (.bl x) H → R v w H Q) : EV G ρ (.Compare a [op] [b] pos) (.bl x) :=
  ev2 (t := fun _ _ _ _ _ => True) (fun X hX => pe_cmpR (ho X hX) pe_w pe_w hm) ha hb fun B v w H Q r1 r2 k => hR B v w H Q r1 r2 (k _ _ (Ex.refl H) .b)
theorem tv_cmp {op : CmpOp} {R : R2} (ho : ∀ X, Fits G X → OpR X (compareOp op) R) (ha : EV G ρ a p) (hb : EV G ρ b q) (hm : behindInMarks op b = false)
    (hR : ∀ (B : Bd) v w H (Q : VK), VR G.K H B v p → VR G.K H B w q → Q (.bl x) H → R v w H Q) : TV G ρ (.Compare a [op] [b] pos) x := by
  intro X hX U B σ H Q E k
  refine of_pt (pt_cmpR (ho X hX) pe_w pe_w hm) ?_
  refine ha X hX _ _ _ _ _ E fun v H1 e1 r1 => ?_
  refine hb X hX _ _ _ _ _ (E.mono e1) fun w H2 e2 r2 => ?_
  exact hR B v w H2 _ (r1.ext e2) r2 ⟨x, rfl, k H2 (e1.trans e2)⟩
/-- a comparison as a value and as a test -/
structure CV (G : Gam) (ρ : List Sl) (e : Expr) (x : Bool) : Prop where
  ev : EV G ρ e (.bl x)
  tv : TV G ρ e x
theorem cv_cmp {op : CmpOp} {R : R2} (ho : ∀ X, Fits G X → OpR X (compareOp op) R) (ha : EV G ρ a p) (hb : EV G ρ b q) (hm : behindInMarks op b = false)
    (hR : ∀ (B : Bd) v w H (Q : VK), VR G.K H B v p → VR G.K H B w q → Q (.bl x) H → R v w H Q) : CV G ρ (.Compare a [op] [b] pos) x := ⟨ev_cmp ho ha hb hm hR, tv_cmp ho ha hb hm hR⟩
variable (hm : behindInMarks .Eq b = false := by first | rfl | exact nobehind _ (by decide) (by decide))
theorem cv_eqi (ha : EV G ρ a (.int i)) (hb : EV G ρ b (.int j)) (hm : behindInMarks .Eq b = false := by first | rfl | exact nobehind _ (by decide) (by decide)) : CV G ρ (.Compare a [.Eq] [b] pos) (decide (i = j)) :=
  cv_cmp (fun _ _ => op_eq) ha hb hm fun B v w H Q r1 r2 k => by
    rw [vr_int r1, vr_int r2]
    refine ⟨rfl, ?_⟩
    rw [show decide (V.int i = V.int j) = decide (i = j) from by simp]
    exact k
theorem cv_nei (ha : EV G ρ a (.int i)) (hb : EV G ρ b (.int j)) (hm : behindInMarks .NotEq b = false := by first | rfl | exact nobehind _ (by decide) (by decide)) : CV G ρ (.Compare a [.NotEq] [b] pos) (!decide (i = j)) :=
  cv_cmp (fun _ _ => op_ne) ha hb hm fun B v w H Q r1 r2 k => by
    rw [vr_int r1, vr_int r2]
    refine ⟨rfl, ?_⟩
    rw [show decide (V.int i = V.int j) = decide (i = j) from by simp]
    exact k
theorem cv_eqb (ha : EV G ρ a (.bl x)) (hb : EV G ρ b (.bl y)) (hm : behindInMarks .Eq b = false := by first | rfl | exact nobehind _ (by decide) (by decide)) : CV G ρ (.Compare a [.Eq] [b] pos) (decide (x = y)) :=
  cv_cmp (fun _ _ => op_eq) ha hb hm fun B v w H Q r1 r2 k => by
    rw [vr_bl r1, vr_bl r2]
    refine ⟨rfl, ?_⟩
    rw [show decide (V.bl x = V.bl y) = decide (x = y) from by simp]
    exact k
theorem cv_eqs {z z' : Str} (ha : EV G ρ a (.str z)) (hb : EV G ρ b (.str z')) (hm : behindInMarks .Eq b = false := by first | rfl | exact nobehind _ (by decide) (by decide)) : CV G ρ (.Compare a [.Eq] [b] pos) (decide (z = z')) :=
  cv_cmp (fun _ _ => op_eq) ha hb hm fun B v w H Q r1 r2 k => by
    rw [vr_str r1, vr_str r2]
    refine ⟨rfl, ?_⟩
    rw [show decide (V.str z = V.str z') = decide (z = z') from by simp]
    exact k
theorem cv_lt (ha : EV G ρ a (.int i)) (hb : EV G ρ b (.int j)) (hm : behindInMarks .Lt b = false := by first | rfl | exact nobehind _ (by decide) (by decide)) : CV G ρ (.Compare a [.Lt] [b] pos) (decide (i < j)) :=
  cv_cmp (fun _ _ => op_lt) ha hb hm fun B v w H Q r1 r2 k => ⟨i, j, vr_int r1, vr_int r2, k⟩
theorem cv_le (ha : EV G ρ a (.int i)) (hb : EV G ρ b (.int j)) (hm : behindInMarks .LtE b = false := by first | rfl | exact nobehind _ (by decide) (by decide)) : CV G ρ (.Compare a [.LtE] [b] pos) (decide (i ≤ j)) :=
  cv_cmp (fun _ _ => op_le) ha hb hm fun B v w H Q r1 r2 k => ⟨i, j, vr_int r1, vr_int r2, k⟩
theorem cv_gt (ha : EV G ρ a (.int i)) (hb : EV G ρ b (.int j)) (hm : behindInMarks .Gt b = false := by first | rfl | exact nobehind _ (by decide) (by decide)) : CV G ρ (.Compare a [.Gt] [b] pos) (decide (j < i)) :=
  cv_cmp (fun _ _ => op_gt) ha hb hm fun B v w H Q r1 r2 k => ⟨i, j, vr_int r1, vr_int r2, k⟩
theorem cv_ge (ha : EV G ρ a (.int i)) (hb : EV G ρ b (.int j)) (hm : behindInMarks .GtE b = false := by first | rfl | exact nobehind _ (by decide) (by decide)) : CV G ρ (.Compare a [.GtE] [b] pos) (decide (j ≤ i)) :=
  cv_cmp (fun _ _ => op_ge) ha hb hm fun B v w H Q r1 r2 k => ⟨i, j, vr_int r1, vr_int r2, k⟩
def PV.isNon : PV → Bool
  | .non => true
  | _ => false
theorem cv_isN (ha : EV G ρ a p) (hb : EV G ρ b .non) (hm : behindInMarks .Is b = false := by first | rfl | exact nobehind _ (by decide) (by decide)) : CV G ρ (.Compare a [.Is] [b] pos) p.isNon :=
  cv_cmp (fun _ _ => op_isN) ha hb hm fun B v w H Q r1 r2 k => by
    refine ⟨vr_non r2, ?_⟩
    rw [show decide (v = V.non) = p.isNon from by cases r1 <;> rfl]
    exact k
/-- a <= b <= c of ints -/
theorem ev_chain_le {k : Int} (ha : EV G ρ a (.int i)) (hb : EV G ρ b (.int j)) (hc : EV G ρ c (.int k)) (hm : lastMarks [.LtE, .LtE] [b, c] = false := by with_unfolding_all rfl) :
    EV G ρ (.Compare a [.LtE, .LtE] [b, c] pos) (.bl (decide (i ≤ j) && decide (j ≤ k))) := by
  intro X hX U B σ H Q E q
  refine of_pe (pe_chain op_le op_le pe_w pe_w pe_w hm) ?_
  refine ha X hX _ _ _ _ _ E fun v H1 e1 r1 => ?_
  refine hb X hX _ _ _ _ _ (E.mono e1) fun w H2 e2 r2 => ?_
  refine ⟨i, j, vr_int r1, vr_int r2, decide (i ≤ j), rfl, ?_⟩
  by_cases h : i ≤ j
  · rw [decide_eq_true h, if_pos rfl]
    refine hc X hX _ _ _ _ _ (E.mono (e1.trans e2)) fun z H3 e3 r3 => ?_
    exact ⟨j, k, vr_int r2, vr_int r3, q _ _ ((e1.trans e2).trans e3) (by rw [decide_eq_true h, Bool.true_and]; exact .b)⟩
  · rw [decide_eq_false h, if_neg Bool.false_ne_true]
    exact q _ _ (e1.trans e2) (by rw [decide_eq_false h, Bool.false_and]; exact .b)
/-! ### and, or, not -/
theorem ev_one {op : BoolOp} (ha : EV G ρ a p) : EV G ρ (.BoolOp op [a] pos) p := fun X hX U B σ H Q E q => of_pe (pe_one pe_w) (ha X hX _ _ _ _ _ E q)
theorem ev_and (ha : EV G ρ a (.bl x)) (hb : x = true → EV G ρ (.BoolOp .And (b :: rest) pos) (.bl y)) : EV G ρ (.BoolOp .And (a :: b :: rest) pos) (.bl (x && y)) := by
  intro X hX U B σ H Q E q
  refine of_pe (pe_and pe_w pe_w) (ha X hX _ _ _ _ _ E fun v H1 e1 r1 => ⟨x, vr_bl r1, ?_⟩)
  cases x with
  | true => exact (if_pos rfl).mpr (hb rfl X hX _ _ _ _ _ (E.mono e1) fun v H2 e2 r2 => q v H2 (e1.trans e2) r2)
  | false => exact (if_neg Bool.false_ne_true).mpr (q _ _ e1 .b)
theorem ev_or (ha : EV G ρ a (.bl x)) (hb : x = false → EV G ρ (.BoolOp .Or (b :: rest) pos) (.bl y)) : EV G ρ (.BoolOp .Or (a :: b :: rest) pos) (.bl (x || y)) := by
  intro X hX U B σ H Q E q
  refine of_pe (pe_or pe_w pe_w) (ha X hX _ _ _ _ _ E fun v H1 e1 r1 => ⟨x, vr_bl r1, ?_⟩)
  cases x with
  | false => exact (if_neg Bool.false_ne_true).mpr (hb rfl X hX _ _ _ _ _ (E.mono e1) fun v H2 e2 r2 => q v H2 (e1.trans e2) r2)
  | true => exact (if_pos rfl).mpr (q _ _ e1 .b)
theorem ev_not (ha : EV G ρ a (.bl x)) : EV G ρ (.UnaryOp .Not a pos) (.bl (!x)) := fun X hX U B σ H Q E q =>
  of_pe (pe_not pe_w) (ha X hX _ _ _ _ _ E fun v H1 e1 r1 => ⟨x, vr_bl r1, q _ _ e1 .b⟩)
theorem tv_val (ha : EV G ρ a (.bl x)) (he : ∀ (env : Env) whole, isTrue a env whole = (do let v ← whole; standAt a.pos; holding [v] (truthy v)) := by intro _ _; rfl) : TV G ρ a x := fun X hX U B σ H Q E q =>
  of_pt (pt_val pe_w (he X.env)) (ha X hX _ _ _ _ _ E fun v H1 e1 r1 => ⟨x, vr_bl r1, q _ e1⟩)
theorem tv_not (ha : TV G ρ a x) : TV G ρ (.UnaryOp .Not a pos) (!x) := fun X hX U B σ H Q E q => of_pt (pt_not pt_w) (ha X hX _ _ _ _ _ E fun H1 e1 => q H1 e1)
theorem wv_and1 (ha : TV G ρ a x) : WV G ρ (.BoolOp .And [a] pos) x := fun X hX U B σ H Q E q => of_pw (pw_and1 pt_w) (ha X hX _ _ _ _ _ E q)
theorem wv_or1 (ha : TV G ρ a x) : WV G ρ (.BoolOp .Or [a] pos) x := fun X hX U B σ H Q E q => of_pw (pw_or1 pt_w) (ha X hX _ _ _ _ _ E q)
theorem wv_and (ha : TV G ρ a x) (hb : x = true → WV G ρ (.BoolOp .And (b :: rest) pos) y) : WV G ρ (.BoolOp .And (a :: b :: rest) pos) (x && y) := by
  intro X hX U B σ H Q E q
  refine of_pw (pw_and pt_w pw_w) (ha X hX _ _ _ _ _ E fun H1 e1 => ?_)
  cases x with
  | true => exact (if_pos rfl).mpr (hb rfl X hX _ _ _ _ _ (E.mono e1) fun H2 e2 => q H2 (e1.trans e2))
  | false => exact (if_neg Bool.false_ne_true).mpr (q _ e1)
theorem wv_or (ha : TV G ρ a x) (hb : x = false → WV G ρ (.BoolOp .Or (b :: rest) pos) y) : WV G ρ (.BoolOp .Or (a :: b :: rest) pos) (x || y) := by
  intro X hX U B σ H Q E q
  refine of_pw (pw_or pt_w pw_w) (ha X hX _ _ _ _ _ E fun H1 e1 => ?_)
  cases x with
  | false => exact (if_neg Bool.false_ne_true).mpr (hb rfl X hX _ _ _ _ _ (E.mono e1) fun H2 e2 => q H2 (e1.trans e2))
  | true => exact (if_pos rfl).mpr (q _ e1)
theorem tv_w (h : WV G ρ a x) : TV G ρ a x := fun X hX U B σ H Q E q => of_pt pw_w.pt (h X hX _ _ _ _ _ E q)
theorem ev_ifx (hc : TV G ρ c x) (ha : x = true → EV G ρ a p) (hb : x = false → EV G ρ b p) : EV G ρ (.IfExp c a b pos) p := by
  intro X hX U B σ H Q E q
  refine of_pe (pe_ifExp pt_w pe_w pe_w) (hc X hX _ _ _ _ _ E fun H1 e1 => ?_)
  cases x with
  | true => exact (if_pos rfl).mpr (ha rfl X hX _ _ _ _ _ (E.mono e1) fun v H2 e2 r2 => q v H2 (e1.trans e2) r2)
  | false => exact (if_neg Bool.false_ne_true).mpr (hb rfl X hX _ _ _ _ _ (E.mono e1) fun v H2 e2 r2 => q v H2 (e1.trans e2) r2)
/-! ### rows of expressions, displays -/
theorem av_nil : AV G ρ [] [] := fun X hX U B σ H Q E q => of_pa pa_nil (q _ _ (Ex.refl H) .nil)
theorem av_cons {ps : List PV} (ha : EV G ρ a p) (hr : AV G ρ es ps) (hs : ∀ env, starEach (a :: es) env = (false, eval a env) :: starEach es env := by intro _; rfl) : AV G ρ (a :: es) (p :: ps) := fun X hX U B σ H Q E q =>
  of_pa (pa_cons pe_w pa_w (hs X.env)) (ha X hX _ _ _ _ _ E fun v H1 e1 r1 => hr X hX _ _ _ _ _ (E.mono e1) fun vs H2 e2 r2 => q _ _ (e1.trans e2) (VRs.cons (r1.ext e2) r2))
theorem ev_tup {ps : List PV} {k : Nat} (ha : AV G ρ es ps) (hl : ps.length ≤ 100000) : EV G ρ (.Tuple es k pos) (.tup ps) := fun X hX U B σ H Q E q =>
  of_pe (pe_tup pa_w) (ha X hX _ _ _ _ _ E fun vs H1 e1 r1 => ⟨Evl.sz_of (by rw [r1.length]; exact hl), fun t nt => q _ _ (e1.trans (Ex.new nt)) (.t (Evl.st_of upd_same) (r1.ext (Ex.new nt)))⟩)
theorem EnvR.lsr {U : Und} {B : Bd} {H H1 : Hp} {σ : L2.St} (E : EnvR G.K U B H σ ρ) (e : Ex H H1) {l : Addr} {vs : List V} (n : H1 l = none) : LsR G.K (upd H1 l (.lst vs)) B l vs :=
  .inl ⟨(E.mono e).fresh (.of n), .inl upd_same⟩
theorem ev_lst {ps : List PV} (ha : AV G ρ es ps) (hl : ps.length ≤ 100000) : EV G ρ (.List es pos) (.lst ps) := fun X hX U B σ H Q E q =>
  of_pe (pe_lst pa_w) (ha X hX _ _ _ _ _ E fun vs H1 e1 r1 => ⟨Evl.sz_of (by rw [r1.length]; exact hl), fun t nt => q _ _ (e1.trans (Ex.new nt)) (.l (E.lsr e1 nt) (r1.ext (Ex.new nt)))⟩)
/-! ### items -/
theorem atI_get {vs : List V} {ps : List PV} {K : PySem.W.Frag} {H : Hp} {B : Bd} {n : Nat} (r : VRs K H B vs ps) (h : ps[n]? = some p) : ∃ v, atI vs (n : Int) = some v ∧ VR K H B v p := by
  obtain ⟨v, h1, h2⟩ := r.get h
  exact ⟨v, atI_nat h1, h2⟩
/-- a list that may be read: a value, or a slot's own -/
def LV (G : Gam) (ρ : List Sl) (e : Expr) (xs : List PV) : Prop := ∀ X, Fits G X → ∀ (U : Und) (B : Bd) (σ : L2.St) (H : Hp) (Q : VK), EnvR G.K U B H σ ρ →
  (∀ l vs H', Ex H H' → SqL G.K H' l vs → VRs G.K H' B vs xs → Q (.ref l) H') → wE X e σ H Q
theorem lv_val {xs : List PV} (h : EV G ρ a (.lst xs)) : LV G ρ a xs := fun X hX U B σ H Q E q => h X hX _ _ _ _ _ E fun v H1 e1 r1 => by
  obtain ⟨l, ws, rfl, hl, rs⟩ := vr_lst r1
  exact q l ws H1 e1 hl.sq rs
theorem lv_own {pin : Option Addr} {xs : List PV} {n : Nat} {x : Str} (hN : G.N[n]? = some x) (hv : Vis G.sc x) (h : ρ[n]? = some (.ow pin xs)) (hd : (x == ("__debug__" : Str)) = false := by decide) (hc : (x == ("__classdict__" : Str)) = false := by decide) : LV G ρ (.Name x pos) xs := by
  intro X hX U B σ H Q E q
  obtain ⟨l, vs, e1, e2, _, _, r, _⟩ := E.own n pin xs h
  exact of_pe (pe_var (i := n) (by rw [hX.N]; exact hN) (by rw [hX.sc]; exact hv) hd hc) ⟨_, e1, q l vs H (Ex.refl H) (Evl.sq_of e2) r⟩
/-- a list or a tuple that may be read -/
def QV (G : Gam) (ρ : List Sl) (e : Expr) (xs : List PV) : Prop := ∀ X, Fits G X → ∀ (U : Und) (B : Bd) (σ : L2.St) (H : Hp) (Q : VK), EnvR G.K U B H σ ρ →
  (∀ l vs H', Ex H H' → (SqL G.K H' l vs ∨ SqT G.K H' l vs) → VRs G.K H' B vs xs → Q (.ref l) H') → wE X e σ H Q
theorem qv_l {xs : List PV} (h : LV G ρ a xs) : QV G ρ a xs := fun X hX U B σ H Q E q => h X hX _ _ _ _ _ E fun l vs H1 e1 hl rs => q l vs H1 e1 (.inl hl) rs
theorem qv_t {xs : List PV} (h : EV G ρ a (.tup xs)) : QV G ρ a xs := fun X hX U B σ H Q E q => h X hX _ _ _ _ _ E fun v H1 e1 r1 => by
  obtain ⟨l, ws, rfl, hl, rs⟩ := vr_tup r1
  exact q l ws H1 e1 (.inr hl) rs
theorem ev_ixT {ps : List PV} {n : Nat} (ha : EV G ρ a (.tup ps)) (hb : EV G ρ b (.int i)) (hi : i = (n : Int)) (h : ps[n]? = some p) (hs : PlainIx b := by exact fun _ _ => rfl) : EV G ρ (.Subscript a b pos) p := by
  intro X hX U B σ H Q E k
  refine of_pe (pe_ix ix_tup pe_w pe_w hs) ?_
  refine ha X hX _ _ _ _ _ E fun v H1 e1 r1 => hb X hX _ _ _ _ _ (E.mono e1) fun w H2 e2 r2 => ?_
  obtain ⟨t, ws, rfl, hT, rs⟩ := vr_tup (r1.ext e2)
  obtain ⟨u, h1, h2⟩ := atI_get rs h
  refine ⟨t, ws, _, u, rfl, vr_int r2, by rw [hX.K]; exact hT, by rw [hi]; exact h1, k u H2 (e1.trans e2) h2⟩
theorem ev_ixL {ps : List PV} {n : Nat} (ha : LV G ρ a ps) (hb : EV G ρ b (.int i)) (hi : i = (n : Int)) (h : ps[n]? = some p) (hs : PlainIx b := by exact fun _ _ => rfl) : EV G ρ (.Subscript a b pos) p := by
  intro X hX U B σ H Q E k
  refine of_pe (pe_ix ix_list pe_w pe_w hs) ?_
  refine ha X hX _ _ _ _ _ E fun l vs H1 e1 hl rs => hb X hX _ _ _ _ _ (E.mono e1) fun w H2 e2 r2 => ?_
  obtain ⟨u, h1, h2⟩ := atI_get (VRs.ext e2 rs) h
  refine ⟨l, vs, _, u, rfl, vr_int r2, by rw [hX.K]; exact VL.ex_l e2 hl, by rw [hi]; exact h1, k u H2 (e1.trans e2) h2⟩
/-! ### built-in functions by name -/
theorem Fits.gl {X : Cx} (hX : Fits G X) {x : Str} (h : G.sc.names.lookup x = some .globalImplicit) : Gl X x := by
  show X.env.scope.names.lookup x = _
  rw [hX.sc]
  exact h
theorem Fits.nn {X : Cx} (hX : Fits G X) {x : Str} (h : G.mg x = none) : X.mg x = none := by rw [hX.mg]; exact h
theorem ev_len {xs : List PV} {p1 : Pos} (ha : QV G ρ a xs) (hm : G.mg "len" = none) (hg : G.sc.names.lookup ("len" : Str) = some .globalImplicit := by first | rfl | decide +kernel) (hs : ∀ env, starEach [a] env = [(false, eval a env)] := by intro _; rfl) : EV G ρ (.Call (.Name "len" p1) [a] [] pos) (.int xs.length) := by
  intro X hX U B σ H Q E k
  refine of_pe (pe_callB call_len_seq (hX.gl hg) (hX.nn hm) PySem.boot_len (pa_cons pe_w pa_nil (hs X.env)) (by decide) (by decide) (hs X.env) rfl) ?_
  refine ha X hX _ _ _ _ _ E fun l vs H1 e1 hl rs => ?_
  refine ⟨l, vs, rfl, by rw [hX.K]; exact hl, k _ _ e1 ?_⟩
  rw [rs.length]
  exact .i
theorem ev_toint {p1 : Pos} (ha : EV G ρ a (.int i)) (hm : G.mg "int" = none) (hg : G.sc.names.lookup ("int" : Str) = some .globalImplicit := by first | rfl | decide +kernel) (hs : ∀ env, starEach [a] env = [(false, eval a env)] := by intro _; rfl) : EV G ρ (.Call (.Name "int" p1) [a] [] pos) (.int i) := by
  intro X hX U B σ H Q E k
  refine of_pe (pe_callTy call_int1 (hX.gl hg) (hX.nn hm) (by decide +kernel) (pa_cons pe_w pa_nil (hs X.env)) (by decide) (by decide) (hs X.env) rfl) ?_
  refine ha X hX _ _ _ _ _ E fun v H1 e1 r1 => .inl ⟨i, by rw [vr_int r1], k _ _ e1 .i⟩
theorem ev_totup {xs : List PV} {p1 : Pos} (ha : QV G ρ a xs) (hm : G.mg "tuple" = none) (hg : G.sc.names.lookup ("tuple" : Str) = some .globalImplicit := by first | rfl | decide +kernel) (hs : ∀ env, starEach [a] env = [(false, eval a env)] := by intro _; rfl) : EV G ρ (.Call (.Name "tuple" p1) [a] [] pos) (.tup xs) := by
  intro X hX U B σ H Q E k
  refine of_pe (pe_callTy call_tuple_of (hX.gl hg) (hX.nn hm) (by decide +kernel) (pa_cons pe_w pa_nil (hs X.env)) (by decide) (by decide) (hs X.env) rfl) ?_
  refine ha X hX _ _ _ _ _ E fun l vs H1 e1 hl rs => ?_
  refine ⟨l, vs, rfl, ?_⟩
  rcases hl with hl | hl
  · exact .inl ⟨by rw [hX.K]; exact hl, fun t nt => k _ _ (e1.trans (Ex.new nt)) (.t (Evl.st_of upd_same) (rs.ext (Ex.new nt)))⟩
  · exact .inr ⟨by rw [hX.K]; exact hl, k _ _ e1 (.t hl rs)⟩
theorem ev_gcd {p1 : Pos} (ha : EV G ρ a (.int i)) (hb : EV G ρ b (.int j)) (hm : G.mg "gcd" = some (.builtin "math.gcd")) (hg : G.sc.names.lookup ("gcd" : Str) = some .globalImplicit := by first | rfl | decide +kernel) (hs : ∀ env, starEach [a, b] env = [(false, eval a env), (false, eval b env)] := by intro _; rfl)
    (hs2 : ∀ env, starEach [b] env = [(false, eval b env)] := by intro _; rfl) : EV G ρ (.Call (.Name "gcd" p1) [a, b] [] pos) (.int ((Nat.gcd i.natAbs j.natAbs : Nat) : Int)) := by
  intro X hX U B σ H Q E k
  have st : starEach [a, b] X.env = (false, eval a X.env) :: starEach [b] X.env := by rw [hs, hs2]
  refine of_pe (pe_callBfun cr_gcd (hX.gl hg) (by rw [hX.mg]; exact hm) (pa_cons pe_w (pa_cons pe_w pa_nil (hs2 X.env)) st) (by decide) st (by rw [hs2]; rfl)) ?_
  refine ha X hX _ _ _ _ _ E fun v H1 e1 r1 => hb X hX _ _ _ _ _ (E.mono e1) fun w H2 e2 r2 => ?_
  exact ⟨i, j, by rw [vr_int r1, vr_int r2], k _ _ (e1.trans e2) .i⟩
def rIsqrt : List V → Hp → VK → Prop := fun vs H Q => ∃ n : Int, vs = [.int n] ∧ 0 ≤ n ∧ n < 2 ^ 64 ∧ Q (.int ((Float64.isqrt n.toNat : Nat) : Int)) H
theorem cr_isqrt {X : Cx} : CallR X (.builtin "math.isqrt") rIsqrt := by
  intro pins s σ H vs us Q I r h
  obtain ⟨n, rfl, h0, h1, q⟩ := h
  cases r with
  | cons ra rt =>
    cases rt
    obtain ⟨t, rfl⟩ := ra
    exact PySem.W.mg_isqrt h0 h1 ⟨.int _, H, I.tok _, ⟨_, rfl⟩, q⟩
theorem ev_isqrt {p1 : Pos} (ha : EV G ρ a (.int i)) (h0 : 0 ≤ i) (h1 : i < 2 ^ 64) (hm : G.mg "isqrt" = some (.builtin "math.isqrt")) (hg : G.sc.names.lookup ("isqrt" : Str) = some .globalImplicit := by first | rfl | decide +kernel) (hs : ∀ env, starEach [a] env = [(false, eval a env)] := by intro _; rfl) :
    EV G ρ (.Call (.Name "isqrt" p1) [a] [] pos) (.int ((Float64.isqrt i.toNat : Nat) : Int)) := by
  intro X hX U B σ H Q E k
  refine of_pe (pe_callBfun cr_isqrt (hX.gl hg) (by rw [hX.mg]; exact hm) (pa_cons pe_w pa_nil (hs X.env)) (by decide) (hs X.env) rfl) ?_
  exact ha X hX _ _ _ _ _ E fun v H1 e1 r1 => ⟨i, by rw [vr_int r1], h0, h1, k _ _ e1 .i⟩
theorem VRs.bls {K : PySem.W.Frag} {H : Hp} {B : Bd} : ∀ {vs : List V} {bs : List Bool}, VRs K H B vs (bs.map PV.bl) → vs = bs.map V.bl
  | [], [], _ => rfl
  | [], _ :: _, h => nomatch h
  | _ :: _, [], h => nomatch h
  | v :: vs, b :: bs, h => by
    have h1 := vr_bl (show VR K H B v (.bl b) from h.head)
    have h2 := VRs.bls (vs := vs) (bs := bs) h.tail
    rw [h1, h2]
    rfl
theorem VRs.intsV {K : PySem.W.Frag} {H : Hp} {B : Bd} : ∀ {vs : List V} {bs : List Int}, VRs K H B vs (bs.map PV.int) → vs = bs.map V.int
  | [], [], _ => rfl
  | [], _ :: _, h => nomatch h
  | _ :: _, [], h => nomatch h
  | v :: vs, b :: bs, h => by
    have h1 := vr_int (show VR K H B v (.int b) from h.head)
    have h2 := VRs.intsV (vs := vs) (bs := bs) h.tail
    rw [h1, h2]
    rfl
theorem ev_all {bs : List Bool} {p1 : Pos} (ha : LV G ρ a (bs.map PV.bl)) (hc : G.calm = true) (hm : G.mg "all" = none) (hg : G.sc.names.lookup ("all" : Str) = some .globalImplicit := by first | rfl | decide +kernel) (hs : ∀ env, starEach [a] env = [(false, eval a env)] := by intro _; rfl) :
    EV G ρ (.Call (.Name "all" p1) [a] [] pos) (.bl (bs.all id)) := by
  intro X hX U B σ H Q E k
  refine of_pe (pe_callB (cr_all (by rw [hX.calm]; exact hc)) (hX.gl hg) (hX.nn hm) (by decide +kernel) (pa_cons pe_w pa_nil (hs X.env)) (by decide) (by decide) (hs X.env) rfl) ?_
  refine ha X hX _ _ _ _ _ E fun l vs H1 e1 hl rs => ?_
  have e := rs.bls
  subst e
  exact ⟨l, bs, rfl, by rw [hX.K]; exact hl, k _ _ e1 .b⟩
/-! ### isinstance -/
def PV.ty : PV → String
  | .non => "NoneType"
  | .bl _ => "bool"
  | .int _ => "int"
  | .str _ => "str"
  | .tup _ => "tuple"
  | .lst _ => "list"
  | .exc .. => "?"
  | .rng .. => "?"
theorem tyX_of {K : PySem.W.Frag} {H : Hp} {B : Bd} {v : V} (h : VR K H B v p) (hn : p.ty ≠ "?") : TyX K H v (.type p.ty) := by
  cases h with
  | non _ => exact .base .non
  | bl _ => exact .base (.bl _)
  | int _ => exact .base (.int _)
  | str _ => exact .base (.str _)
  | tup a _ _ =>
    rcases a with (a | ⟨o, a⟩) | ⟨o, its, n, h1, h2, _⟩
    · exact .base (.tup a)
    · exact .fTuple a
    · exact .kTuple h1 h2
  | lst a _ _ =>
    rcases a with ⟨_, a | ⟨o, a⟩⟩ | ⟨o, its, n, h1, h2, _⟩
    · exact .base (.lst a)
    · exact .base (.frz a)
    · exact .kList h1 h2
  | exc => exact absurd rfl hn
  | rng => exact absurd rfl hn
theorem ev_isi {p1 p2 : Pos} {T : Str} {T' : String} (ha : EV G ρ a p) (hn : p.ty ≠ "?") (hk : kitB p.ty T' = some x) (hm : G.mg "isinstance" = none) (hT : G.mg T = none) (hb : bootBuiltins T = some (.type T')) (hTn : T ≠ "__name__" := by decide) (hTd : (T == ("__debug__" : Str)) = false := by decide)
    (hg : G.sc.names.lookup ("isinstance" : Str) = some .globalImplicit := by first | rfl | decide +kernel) (hgT : G.sc.names.lookup T = some .globalImplicit := by first | rfl | decide +kernel)
    (hs : ∀ env, starEach [a, .Name T p2] env = [(false, eval a env), (false, eval (.Name T p2) env)] := by intro _; rfl) :
    EV G ρ (.Call (.Name "isinstance" p1) [a, .Name T p2] [] pos) (.bl x) := by
  intro X hX U B σ H Q E k
  refine of_pe (pe_callB call_isi (hX.gl hg) (hX.nn hm) (by decide +kernel) (pa_cons pe_w (pa_cons (pe_bltn (v := .ty T') (hX.gl hgT) (hX.nn hT) hb rfl hTn hTd) pa_nil) (hs X.env)) (by decide) (by decide) (hs X.env) rfl) ?_
  refine ha X hX _ _ _ _ _ E fun v H1 e1 r1 => ?_
  exact ⟨v, .ty T', .type p.ty, .type T', x, rfl, .ty T', by rw [hX.K]; exact tyX_of r1 hn, kit_ty hk, k _ _ e1 .b⟩
/-! ### data at any depth -/
def PV.dats : List PV → List PyData
  | [] => []
  | p :: ps => (match p with
    | .non => .none
    | .bl b => .bool b
    | .int i => .int i
    | .str x => .str x
    | .tup xs => .tuple (PV.dats xs)
    | .lst xs => .list (PV.dats xs)
    | .exc .. => .none
    | .rng .. => .none) :: PV.dats ps
end
end VL
namespace VL
open PySem PySem.Spec PyProof.Rows L2
variable [Tb]
open L2H (RoomH HotC FnH)
/-! ### promises of defs where the guards are known -/
structure FnG (P : Program) (w : World) (K : PySem.W.Frag) (mg : Str → Option Value) (base : Heap) (CT : CXT) (k : Nat) (f : Addr) (fd : FuncData) (ps : List Str) (sp : Sp) : Prop where
  len : ∀ vs H Q E, sp vs H Q E → vs.length = ps.length
  run : ∀ (A : Around) (outer : List Env) (s : Shared) (H : Hp) (args : Args) (us : List Value) (vs : List V) (Q : VK) (E : XK), Room k A → A.guards = some [] → Env0 P w K mg base A outer s H → BindsTo s fd args (ps.zip us) → Vals vs us → sp vs H Q E →
    codeAny (model P w) A (.call (.ref f) args) (CR CT outer P w H s Q E) s
structure FnHG (P : Program) (w : World) (K : PySem.W.Frag) (mg : Str → Option Value) (base : Heap) (CT : CXT) (k : Nat) (f : Addr) (fd : FuncData) (ps : List Str) (sp : Sp) : Prop where
  len : ∀ vs H Q E, sp vs H Q E → vs.length = ps.length
  run : ∀ (A : Around) (outer : List Env) (s : Shared) (H : Hp) (args : Args) (us : List Value) (vs : List V) (Q : VK) (E : XK) (p : Addr × Obj), RoomH k A → A.guards = some [] → L2H.Hot1 A p → L2H.PinOk outer H s p → Env0 P w K mg base A outer s H → BindsTo s fd args (ps.zip us) → Vals vs us → sp vs H Q E →
    codeAny (model P w) A (.call (.ref f) args) (CR CT outer P w H s Q E) s
section
variable {CT : CXT} {P : Program} {w : World} {K : PySem.W.Frag} {mg : Str → Option Value} {base : Heap} {k : Nat} {f : Addr} {name qual : Str} {params : Arguments} {body : List Stmt} {scope : Scope} {dV kV doc pm cdv ct oc : Value} {an od : Option Addr} {osl : Array (Option Value)} {N ps : List Str} {sp : Sp}
theorem fnG_of (lk : K.lookup f = some ⟨oc, od, .func (PySem.W.fnOf name qual params body scope dV kV doc pm an cdv ct), osl⟩) (hcd : PySem.W.codeIn K cdv qual = true) (S : FnScope N ps scope) (ln : ∀ vs H Q E, sp vs H Q E → vs.length = ps.length)
    (hb : ∀ (A : Around) (outer : List Env) (s : Shared) (H : Hp) (vs : List V) (Q : VK) (E : XK), A.guards = some [] → Room k (A.deeper (envOfC qual scope s.heap.objs.size f cdv)) → sp vs H Q E → ∃ t, PSs (cxOf CT P w K mg base N qual scope f cdv A outer s H E) body t ∧ t { nx := fun _ H' => Q .non H', rt := Q } (L2.start N vs) H) :
    FnG P w K mg base CT (k + 1) f (PySem.W.fnOf name qual params body scope dV kV doc pm an cdv ct) ps sp :=
  ⟨ln, fun A outer s H args us vs Q E hr gd e0 bn r hsp => LamX.run_ofS lk hcd S hr e0 bn r (ln _ _ _ _ hsp) fun hr' => hb A outer s H vs Q E gd hr' hsp⟩
theorem fnHG_of (lk : K.lookup f = some ⟨oc, od, .func (PySem.W.fnOf name qual params body scope dV kV doc pm an cdv ct), osl⟩) (hcd : PySem.W.codeIn K cdv qual = true) (S : FnScope N ps scope) (ln : ∀ vs H Q E, sp vs H Q E → vs.length = ps.length)
    (hb : ∀ (A : Around) (outer : List Env) (s : Shared) (H : Hp) (vs : List V) (Q : VK) (E : XK) (p : Addr × Obj), A.guards = some [] → L2H.Hot1 A p → RoomH k (A.deeper (envOfC qual scope s.heap.objs.size f cdv)) → sp vs H Q E → ∃ t, PSs (L2H.cxH CT P w K mg base N qual scope f cdv A outer s H E p) body t ∧ t { nx := fun _ H' => Q .non H', rt := Q } (L2.start N vs) H) :
    FnHG P w K mg base CT (k + 1) f (PySem.W.fnOf name qual params body scope dV kV doc pm an cdv ct) ps sp := by
  refine ⟨ln, fun A outer s H args us vs Q E p hr gd hot pin e0 bn r hsp => ?_⟩
  have stays : ∀ b o, base.get? b = some o → s.heap.get? b = some o := fun b o e => (e0.bs b o e).1
  have KX : K.In s.heap := e0.mod.kin.keeps stays
  have kinds : ∀ y ∈ ps.zip us, scope.names.lookup y.1 = some .local ∨ (scope.names.lookup y.1 = some .cell ∧ ((cellsFrom (s.heap.objs.size + 1) scope.names []).lookup y.1).isSome = true) := fun y hy =>
    (S.par y.1 (List.of_mem_zip (a := y.1) (b := y.2) hy).1).imp id fun q => ⟨q, PySem.W.cellsFrom_some _ _ _ (.inl q)⟩
  refine codeAny_call_function hr.depth (KX _ _ lk) rfl S.co S.gen rfl (PySem.W.codeRec_of KX hcd) (bn _ _ _ _ (wpAny_newFunctionEnv_cells S.kind kinds ?_))
  intro env he s1 x
  cases he
  refine ⟨(e0.mod.nolimit.keeps stays).keeps x.toInCall.keep, codeAny_func ?_⟩
  obtain ⟨t, ht, hq⟩ := hb A outer s H vs Q E p gd hot (hr.deeper _) hsp
  refine wpAny_mono (ht.run [] s1 (L2.start N vs) H _ (L2H.inv_startH S pin e0 (ln _ _ _ _ hsp) r x) hq) (fun fl s' hs => ?_) fun _ _ z => z
  cases fl with
  | brk => exact False.elim hs.choose_spec.choose_spec.2
  | cont => exact False.elim hs.choose_spec.choose_spec.2
  | next =>
    obtain ⟨_, H', J, q⟩ := hs
    exact ⟨V.non, H', J.os, J.bare, J.base, J.hok, rfl, q⟩
  | ret u =>
    obtain ⟨v, _, H', J, rv, q⟩ := hs
    exact ⟨v, H', J.os, J.bare, J.base, J.hok, rv, q⟩
end
section
variable {X : Cx} {CT : CXT} {k : Nat} {f : Addr} {fd : FuncData} {ps : List Str} {sp : Sp} {x : Str} {p pos : Pos} {e : Expr} {es : List Expr} {t : TA} {pins : List (Addr × Obj)} {σ : L2.St} {H : Hp} {s : Shared} {Q : VK} {E : XK} {us : List Value} {vs : List V}
theorem after_call (I : Inv X pins σ H s) (hx : PassesAt CT X σ E) {r : Result} {s' : Shared} (h : CR CT X.stack X.prog X.w H s Q E r s') : match r with
    | .ok (.ret u) => EP X pins σ Q u s'
    | .ok _ => False
    | .error z => X.xe z s' := by
  cases r with
  | error z => exact hx pins H s z s' I h
  | ok fl =>
    cases fl with
    | ret u => exact I.after h
    | next => exact False.elim h
    | brk => exact False.elim h
    | cont => exact False.elim h
theorem runG (F : FnG X.prog X.w X.K X.mg X.base CT k f fd ps sp) (hr : Room k X.A) (gd : X.A.guards = some []) {as : Args} (hb : BindsTo s fd as (ps.zip us)) (hx : PassesAt CT X σ E) (I : Inv X pins σ H s) (r : Vals vs us) (h : sp vs H Q E) :
    wpAny (model X.prog X.w) X.A (call (.ref f) as.pos as.kw) (EP X pins σ Q) X.xe s := by
  refine wpAny_call (codeAny_mono (F.run X.A X.stack s H as us vs Q E hr gd I.env0 hb r h) fun r' s' hq => ?_)
  have z := after_call I hx hq
  cases r' with
  | error _ => exact z
  | ok fl => cases fl <;> exact z
theorem pe_callG {E : L2.St → XK} (F : FnG X.prog X.w X.K X.mg X.base CT k f fd ps sp) (hr : Room k X.A) (gd : X.A.guards = some []) (hg : Gl X x) (hm : X.mg x = some (.ref f)) (hk : PySem.W.keepIn X.K (.ref f) = true) (hb : Binds X.K fd ps []) (hx : ∀ σ, PassesAt CT X σ (E σ))
    (ha : PA X (e :: es) t) (hdb : (x == ("__debug__" : Str)) = false) (he : starEach (e :: es) X.env = (false, eval e X.env) :: starEach es X.env) (hpl : (backTo pos (starEach es X.env)).any (·.1) = false) :
    PE X (.Call (.Name x p) (e :: es) [] pos) (fun σ H Q => t σ H fun vs H1 => sp vs H1 Q (E σ)) := ⟨fun pins s σ H Q I h =>
  wpAny_Call_Name_kw (ld_glob I hg hm (PySem.W.callWith_K (h₀ := X.base) I.ok.mod.kin hk (thn (ha.run pos pins s σ H _ I h) fun us s1 ⟨vs, H1, I1, r, q⟩ => ⟨I1.kIn, by
    have hl : us.length = ps.length := by rw [← r.length]; exact F.len _ _ _ _ q
    have b := hb s1 us I1.kIn (by rw [List.append_nil]; exact hl)
    rw [List.append_nil] at b
    exact runG (as := ⟨us, []⟩) F hr gd b (hx σ) I1 r q⟩) he hpl) hdb)⟩
theorem pe_callG0 (F : FnG X.prog X.w X.K X.mg X.base CT k f fd [] sp) (hr : Room k X.A) (gd : X.A.guards = some []) (hg : Gl X x) (hm : X.mg x = some (.ref f)) (hk : PySem.W.keepIn X.K (.ref f) = true) (hb : Binds X.K fd [] []) (hx : ∀ σ, PassesAt CT X σ E)
    (hdb : (x == ("__debug__" : Str)) = false) : PE X (.Call (.Name x p) [] [] pos) (fun σ H Q => sp [] H Q E) := ⟨fun pins s σ H Q I h =>
  wpAny_Call_Name_kw (ld_glob I hg hm (PySem.W.callWith_K0 (first := []) I.kIn hk (runG (as := ⟨[], []⟩) F hr gd (hb s [] I.kIn rfl) (hx σ) I .nil h)) hdb)⟩
theorem pe_callHG {E : L2.St → XK} (F : FnHG X.prog X.w X.K X.mg X.base CT k f fd ps sp) (hr : RoomH k X.A) (gd : X.A.guards = some []) (hc : HotC X) (hg : Gl X x) (hm : X.mg x = some (.ref f)) (hk : PySem.W.keepIn X.K (.ref f) = true) (hb : Binds X.K fd ps []) (hx : ∀ σ, PassesAt CT X σ (E σ))
    (ha : PA X (e :: es) t) (hdb : (x == ("__debug__" : Str)) = false) (he : starEach (e :: es) X.env = (false, eval e X.env) :: starEach es X.env) (hpl : (backTo pos (starEach es X.env)).any (·.1) = false) :
    PE X (.Call (.Name x p) (e :: es) [] pos) (fun σ H Q => t σ H fun vs H1 => sp vs H1 Q (E σ)) := ⟨fun pins s σ H Q I h =>
  wpAny_Call_Name_kw (ld_glob I hg hm (PySem.W.callWith_K (h₀ := X.base) I.ok.mod.kin hk (thn (ha.run pos pins s σ H _ I h) fun us s1 ⟨vs, H1, I1, r, q⟩ => ⟨I1.kIn, by
    have hl : us.length = ps.length := by rw [← r.length]; exact F.len _ _ _ _ q
    have b := hb s1 us I1.kIn (by rw [List.append_nil]; exact hl)
    rw [List.append_nil] at b
    obtain ⟨p, hot, hp⟩ := hc
    have P1 := I1.pin p (List.mem_append_left _ hp)
    have pin : L2H.PinOk X.stack H1 s1 p := ⟨P1.1, P1.2.1, fun hm => (List.mem_cons.mp (I1.stkSub p.1 hm)).elim P1.2.2.1 P1.2.2.2.1, P1.2.2.2.2⟩
    refine wpAny_call (codeAny_mono (F.run X.A X.stack s1 H1 ⟨us, []⟩ us vs Q (E σ) p hr gd hot pin I1.env0 b r q) fun r' s' hq => ?_)
    have z := after_call I1 (hx σ) hq
    cases r' with
    | error _ => exact z
    | ok fl => cases fl <;> exact z⟩) he hpl) hdb)⟩
end
/-! ### what a def gives -/
inductive Res where
  | ok (p : PV)
  | exc (C : Addr) (ns : List Str) (xs : List PV)
abbrev Rel := List PV → Res → Prop
def ResOk (K : PySem.W.Frag) (B : Bd) (H : Hp) (Q : VK) (E : XK) : Res → Prop
  | .ok p => ∀ v H', Ex H H' → VR K H' B v p → Q v H'
  | .exc C ns xs => ∀ d ws H', Ex H H' → H' d = some (.xd (ns.zip ws)) → ws.length = ns.length → VRs K H' B ws xs → E (.ref C) (some d) H'
def spOf (K : PySem.W.Frag) (n : Nat) (R : Rel) : Sp := fun vs H Q E => LamX.Tabs Tb.T H ∧ ∃ (args : List PV) (r : Res) (B : Bd), VRs K H B vs args ∧ (∀ b, B b → Kn H b) ∧ args.length = n ∧ R args r ∧ ResOk K B H Q E r
def FnV (P : Program) (w : World) (K : PySem.W.Frag) (mg : Str → Option Value) (base : Heap) (k : Nat) (x : Str) (ps : List Str) (R : Rel) : Prop :=
  ∃ f fd, mg x = some (.ref f) ∧ PySem.W.keepIn K (.ref f) = true ∧ FnG P w K mg base (L2N.CX P w) k f fd ps (spOf K ps.length R) ∧ Binds K fd ps []
def FnVH (P : Program) (w : World) (K : PySem.W.Frag) (mg : Str → Option Value) (base : Heap) (k : Nat) (x : Str) (ps : List Str) (R : Rel) : Prop :=
  ∃ f fd, mg x = some (.ref f) ∧ PySem.W.keepIn K (.ref f) = true ∧ FnHG P w K mg base (L2N.CX P w) k f fd ps (spOf K ps.length R) ∧ Binds K fd ps []
abbrev Gam.Fn (G : Gam) (k : Nat) (x : Str) (ps : List Str) (R : Rel) : Prop := FnV G.P G.w G.K G.mg G.base k x ps R
abbrev Gam.FnHot (G : Gam) (k : Nat) (x : Str) (ps : List Str) (R : Rel) : Prop := FnVH G.P G.w G.K G.mg G.base k x ps R
/-- an expression that raises -/
def EX (G : Gam) (ρ : List Sl) (e : Expr) (C : Addr) (ns : List Str) (xs : List PV) : Prop := ∀ X, Fits G X → ∀ (W : WX), L2N.Takes X W → ∀ (U : Und) (B : Bd) (σ : L2.St) (H : Hp) (Q : VK), EnvR G.K U B H σ ρ →
  (∀ d ws H', Ex H H' → H' d = some (.xd (ns.zip ws)) → ws.length = ns.length → VRs G.K H' B ws xs → W (.ref C) (some d) σ H') → wE X e σ H Q
section
variable {G : Gam} {ρ : List Sl} {a b c e : Expr} {es rest : List Expr} {pos : Pos} {i j : Int} {p q r : PV} {x y : Bool} {k : Nat} {f : Str} {ps : List Str} {R : Rel} {args : List PV}
theorem pass0N {X : Cx} : Passes (L2N.CX X.prog X.w) X (fun _ _ _ => False) := fun _ _ _ _ _ _ _ h => by
  obtain ⟨_, _, _, _, _, _, _, _, _, _, _, _, z⟩ := h
  exact z.elim
theorem pass0H {X : Cx} {σ : L2.St} : PassesAt (L2N.CX X.prog X.w) X σ (fun _ _ _ => False) := fun _ _ _ _ _ _ h => by
  obtain ⟨_, _, _, _, _, _, _, _, _, _, _, _, z⟩ := h
  exact z.elim
theorem ev_call {p1 : Pos} (F : G.Fn k f ps R) (hc : G.calm = true) (hk : k ≤ G.k) (ha : AV G ρ (e :: es) args) (hR : R args (.ok p)) (hl : args.length = ps.length) (hg : G.sc.names.lookup f = some .globalImplicit := by first | rfl | decide +kernel) (hd : (f == ("__debug__" : Str)) = false := by decide)
    (hs : ∀ env, starEach (e :: es) env = (false, eval e env) :: starEach es env := by intro _; rfl) (hpl : ∀ env, (backTo pos (starEach es env)).any (·.1) = false := by intro _; rfl) : EV G ρ (.Call (.Name f p1) (e :: es) [] pos) p := by
  obtain ⟨g, fd, hm, hkp, F, hb⟩ := F
  intro X hX U B σ H Q E q
  have F' : FnG X.prog X.w X.K X.mg X.base (L2N.CX X.prog X.w) k g fd ps (spOf G.K ps.length R) := by rw [hX.prog, hX.w, hX.K, hX.mg, hX.base]; exact F
  refine of_pe (pe_callG (E := fun _ _ _ _ => False) F' ((hX.room hc).mono hk) hX.gd (hX.gl hg) (by rw [hX.mg]; exact hm) (by rw [hX.K]; exact hkp) (by rw [hX.K]; exact hb) (fun _ => pass0H) pa_w hd (hs X.env) (hpl X.env)) ?_
  refine ha X hX _ _ _ _ _ E fun vs H1 e1 rs => ?_
  exact ⟨(E.mono e1).tabs, args, .ok p, B, rs, (E.mono e1).trk, hl, hR, fun v H2 e2 r2 => q v H2 (e1.trans e2) r2⟩
theorem ev_call0 {p1 : Pos} (F : G.Fn k f [] R) (hc : G.calm = true) (hk : k ≤ G.k) (hR : R [] (.ok p)) (hg : G.sc.names.lookup f = some .globalImplicit := by first | rfl | decide +kernel) (hd : (f == ("__debug__" : Str)) = false := by decide) : EV G ρ (.Call (.Name f p1) [] [] pos) p := by
  obtain ⟨g, fd, hm, hkp, F, hb⟩ := F
  intro X hX U B σ H Q E q
  have F' : FnG X.prog X.w X.K X.mg X.base (L2N.CX X.prog X.w) k g fd [] (spOf G.K 0 R) := by rw [hX.prog, hX.w, hX.K, hX.mg, hX.base]; exact F
  refine of_pe (pe_callG0 (E := fun _ _ _ => False) F' ((hX.room hc).mono hk) hX.gd (hX.gl hg) (by rw [hX.mg]; exact hm) (by rw [hX.K]; exact hkp) (by rw [hX.K]; exact hb) (fun _ => pass0H) hd) ?_
  exact ⟨E.tabs, [], .ok p, B, .nil, E.trk, rfl, hR, fun v H2 e2 r2 => q v H2 e2 r2⟩
theorem ev_callH {p1 : Pos} (F : G.FnHot k f ps R) (hc : G.calm = false) (hk : k ≤ G.k) (ha : AV G ρ (e :: es) args) (hR : R args (.ok p)) (hl : args.length = ps.length) (hg : G.sc.names.lookup f = some .globalImplicit := by first | rfl | decide +kernel) (hd : (f == ("__debug__" : Str)) = false := by decide)
    (hs : ∀ env, starEach (e :: es) env = (false, eval e env) :: starEach es env := by intro _; rfl) (hpl : ∀ env, (backTo pos (starEach es env)).any (·.1) = false := by intro _; rfl) : EV G ρ (.Call (.Name f p1) (e :: es) [] pos) p := by
  obtain ⟨g, fd, hm, hkp, F, hb⟩ := F
  intro X hX U B σ H Q E q
  have F' : FnHG X.prog X.w X.K X.mg X.base (L2N.CX X.prog X.w) k g fd ps (spOf G.K ps.length R) := by rw [hX.prog, hX.w, hX.K, hX.mg, hX.base]; exact F
  refine of_pe (pe_callHG (E := fun _ _ _ _ => False) F' (hX.roomH.mono hk) hX.gd (hX.hot hc) (hX.gl hg) (by rw [hX.mg]; exact hm) (by rw [hX.K]; exact hkp) (by rw [hX.K]; exact hb) (fun _ => pass0H) pa_w hd (hs X.env) (hpl X.env)) ?_
  refine ha X hX _ _ _ _ _ E fun vs H1 e1 rs => ?_
  exact ⟨(E.mono e1).tabs, args, .ok p, B, rs, (E.mono e1).trk, hl, hR, fun v H2 e2 r2 => q v H2 (e1.trans e2) r2⟩
theorem ex_call {p1 : Pos} {C : Addr} {ns : List Str} {xs : List PV} (F : G.Fn k f ps R) (hc : G.calm = true) (hk : k ≤ G.k) (ha : AV G ρ (e :: es) args) (hR : R args (.exc C ns xs)) (hl : args.length = ps.length) (hg : G.sc.names.lookup f = some .globalImplicit := by first | rfl | decide +kernel) (hd : (f == ("__debug__" : Str)) = false := by decide)
    (hs : ∀ env, starEach (e :: es) env = (false, eval e env) :: starEach es env := by intro _; rfl) (hpl : ∀ env, (backTo pos (starEach es env)).any (·.1) = false := by intro _; rfl) : EX G ρ (.Call (.Name f p1) (e :: es) [] pos) C ns xs := by
  obtain ⟨g, fd, hm, hkp, F, hb⟩ := F
  intro X hX W tk U B σ H Q E q
  have F' : FnG X.prog X.w X.K X.mg X.base (L2N.CX X.prog X.w) k g fd ps (spOf G.K ps.length R) := by rw [hX.prog, hX.w, hX.K, hX.mg, hX.base]; exact F
  refine of_pe (pe_callG (E := WE W) F' ((hX.room hc).mono hk) hX.gd (hX.gl hg) (by rw [hX.mg]; exact hm) (by rw [hX.K]; exact hkp) (by rw [hX.K]; exact hb) (L2N.passAt tk) pa_w hd (hs X.env) (hpl X.env)) ?_
  refine ha X hX _ _ _ _ _ E fun vs H1 e1 rs => ?_
  exact ⟨(E.mono e1).tabs, args, .exc C ns xs, B, rs, (E.mono e1).trk, hl, hR, fun d ws H2 e2 h1 h2 h3 => q d ws H2 (e1.trans e2) h1 h2 h3⟩
end
/-! ### statements -/
inductive Out where
  | nx (ρ : List Sl) | rt (p : PV) | rto (ρ : List Sl) (p : PV) | rtn (xs : List PV) | xc (ρ : List Sl) (C : Addr) (ns : List Str) (xs : List PV) | bk (ρ : List Sl) | ct (ρ : List Sl)
def OutOk (K : PySem.W.Frag) (U : Und) (D : Ends) (W : WX) : Out → Prop
  | .nx ρ => ∀ B σ H, EnvR K U B H σ ρ → D.nx σ H
  | .bk ρ => ∀ B σ H, EnvR K U B H σ ρ → D.bk σ H
  | .ct ρ => ∀ B σ H, EnvR K U B H σ ρ → D.ct σ H
  | .rt p => ∀ v H, Ex U.H0 H → VR K H U.B0 v p → D.rt v H
  | .rto ρ p => ∀ B v σ H, EnvR K U B H σ ρ → VR K H B v p → D.rt v H
  | .rtn xs => ∀ l vs H, Ex U.H0 H → Fr U.H0 l → H l = some (.lst vs) → VRs K H (fun a => U.B0 a ∨ a = l) vs xs → D.rt (.ref l) H
  | .xc ρ C ns xs => ∀ d ws B σ H, EnvR K U B H σ ρ → H d = some (.xd (ns.zip ws)) → ws.length = ns.length → VRs K H B ws xs → W (.ref C) (some d) σ H
structure Air (X : Cx) (W : WX) : Prop where
  tk : L2N.Takes X W
  po : PassesOwn (model X.prog X.w) X.A X.env X.xe
  stk : X.stack = X.env :: X.outer
  fr : X.env.frame = some X.env.locals
def SV (G : Gam) (ρ : List Sl) (st : Stmt) (out : Out) : Prop := ∀ X E, Fits G X → Air X E → ∀ (U : Und) (B : Bd) (σ : L2.St) (H : Hp) (D : Ends), EnvR G.K U B H σ ρ → OutOk G.K U D E out → wS X st D σ H
def SS (G : Gam) (ρ : List Sl) (sts : List Stmt) (out : Out) : Prop := ∀ X E, Fits G X → Air X E → ∀ (U : Und) (B : Bd) (σ : L2.St) (H : Hp) (D : Ends), EnvR G.K U B H σ ρ → OutOk G.K U D E out → wB X sts D σ H
def Out.stops : Out → Bool
  | .nx _ => false
  | _ => true
section
variable {G : Gam} {ρ ρ' : List Sl} {a b c e : Expr} {st : Stmt} {rest body orelse : List Stmt} {out : Out} {pos : Pos} {p : PV} {x : Bool}
theorem ss_nil : SS G ρ [] (.nx ρ) := fun X E hX hA U B σ H D R h => of_pss pss_nil (h B σ H R)
theorem ss_cons (h1 : SV G ρ st (.nx ρ')) (h2 : SS G ρ' rest out) : SS G ρ (st :: rest) out := fun X E hX hA U B σ H D R h =>
  of_pss (pss_cons ps_w pss_w) (h1 X E hX hA _ _ _ _ _ R fun B1 σ1 H1 R1 => h2 X E hX hA _ _ _ _ _ R1 h)
theorem ss_stop (h1 : SV G ρ st out) (hs : out.stops = true := by rfl) : SS G ρ (st :: rest) out := fun X E hX hA U B σ H D R h =>
  of_pss (pss_cons ps_w (u := fun _ _ _ => False) ⟨fun _ _ _ _ _ _ z => z.elim⟩) (h1 X E hX hA _ _ _ _ _ R (by
    cases out with
    | nx _ => cases hs
    | rt _ => exact h
    | rto _ _ => exact h
    | rtn _ => exact h
    | xc _ _ _ _ => exact h
    | bk _ => exact h
    | ct _ => exact h))
theorem ss_one (h1 : SV G ρ st out) : SS G ρ [st] out := fun X E hX hA U B σ H D R h => of_pss (pss_one ps_w) (h1 X E hX hA _ _ _ _ _ R h)
theorem sv_pass : SV G ρ (.Pass pos) (.nx ρ) := fun X E hX hA U B σ H D R h => of_ps ps_pass (h B σ H R)
theorem sv_brk : SV G ρ (.Break pos) (.bk ρ) := fun X E hX hA U B σ H D R h => of_ps ps_break (h B σ H R)
theorem sv_cont : SV G ρ (.Continue pos) (.ct ρ) := fun X E hX hA U B σ H D R h => of_ps ps_continue (h B σ H R)
theorem sv_ret (he : EV G ρ e p) : SV G ρ (.Return (some e) pos) (.rt p) := fun X E hX hA U B σ H D R h =>
  of_ps (ps_ret pe_w) (he X hX _ _ _ _ _ R fun v H1 e1 r1 => h v H1 (R.ex.trans e1) (r1.anti R.up))
theorem sv_reto (he : EV G ρ e p) : SV G ρ (.Return (some e) pos) (.rto ρ p) := fun X E hX hA U B σ H D R h =>
  of_ps (ps_ret pe_w) (he X hX _ _ _ _ _ R fun v H1 e1 r1 => h B v σ H1 (R.mono e1) r1)
theorem sv_retX {C : Addr} {ns : List Str} {xs : List PV} (he : EX G ρ e C ns xs) : SV G ρ (.Return (some e) pos) (.xc ρ C ns xs) := fun X E hX hA U B σ H D R h =>
  of_ps (ps_ret pe_w) (he X hX E hA.tk _ _ _ _ _ R fun d ws H1 e1 h1 h2 h3 => h d ws B σ H1 (R.mono e1) h1 h2 h3)
theorem sv_expr (he : EV G ρ e p) (hs : ∀ env, swapsWith e none pos.line env = pure false := by intro _; rfl) : SV G ρ (.Expr e pos) (.nx ρ) := fun X E hX hA U B σ H D R h =>
  of_ps (ps_expr pe_w (hs X.env)) (he X hX _ _ _ _ _ R fun v H1 e1 r1 => h B σ H1 (R.mono e1))
theorem sv_exprX {C : Addr} {ns : List Str} {xs : List PV} (he : EX G ρ e C ns xs) (hs : ∀ env, swapsWith e none pos.line env = pure false := by intro _; rfl) : SV G ρ (.Expr e pos) (.xc ρ C ns xs) := fun X E hX hA U B σ H D R h =>
  of_ps (ps_expr pe_w (hs X.env)) (he X hX E hA.tk _ _ _ _ _ R fun d ws H1 e1 h1 h2 h3 => h d ws B σ H1 (R.mono e1) h1 h2 h3)
theorem sv_if (hc : TV G ρ c x) (h1 : x = true → SS G ρ body out) (h2 : x = false → SS G ρ orelse out) : SV G ρ (.If c body orelse pos) out := fun X E hX hA U B σ H D R h =>
  of_ps (ps_if pt_w pss_w pss_w) (hc X hX _ _ _ _ _ R fun H1 e1 => by
    cases x with
    | true => exact (if_pos rfl).mpr (h1 rfl X E hX hA _ _ _ _ _ (R.mono e1) h)
    | false => exact (if_neg Bool.false_ne_true).mpr (h2 rfl X E hX hA _ _ _ _ _ (R.mono e1) h))
theorem Fits.loc {X : Cx} (hX : Fits G X) {z : Str} (h : Loc G.sc z) : Loc X.env.scope z := by rw [hX.sc]; exact h
theorem Fits.fnl {X : Cx} (hX : Fits G X) {z : Str} (h : G.fn z = true ∨ G.sc.names.lookup z = some .local) : X.fn z = true ∨ X.env.scope.names.lookup z = some .local := by rw [hX.sc, hX.fn]; exact h
theorem sv_set {n : Nat} {z : Str} {p1 : Pos} (hi : G.N[n]? = some z) (hx : Loc G.sc z) (he : EV G ρ e p) (hf : G.fn z = true ∨ G.sc.names.lookup z = some .local := by first | exact .inl rfl | exact .inr rfl)
    (hs : ∀ env, swapsWith e (some (.Name z p1)) pos.line env = pure false := by intro _; rfl) : SV G ρ (.Assign [.Name z p1] e pos) (.nx (ρ.set n (.val p))) := fun X E hX hA U B σ H D R h =>
  of_ps (ps_set (i := n) (by rw [hX.N]; exact hX.nd) (by rw [hX.N]; exact hi) (hX.loc hx) pe_w (hs X.env) (hX.fnl hf)) (he X hX _ _ _ _ _ R fun v H1 e1 r1 => h B _ H1 ((R.mono e1).set r1))
end
/-! ### a def of the text -/
def start0 (n : Nat) (args : List PV) : List Sl := args.map Sl.val ++ List.replicate (n - args.length) .no
inductive Ends1 : Res → Out → Prop
  | rt {p} : Ends1 (.ok p) (.rt p)
  | nx {ρ} : Ends1 (.ok .non) (.nx ρ)
  | xc {ρ C ns xs} : Ends1 (.exc C ns xs) (.xc ρ C ns xs)
theorem start_env {K : PySem.W.Frag} {B : Bd} {H : Hp} {N : List Str} {vs : List V} {args : List PV} (r : VRs K H B vs args) (tr : ∀ b, B b → Kn H b) (tt : LamX.Tabs Tb.T H) : EnvR K ⟨B, H, []⟩ B H (L2.start N vs) (start0 N.length args) where
  len := by
    unfold L2.start start0
    rw [List.length_append, List.length_append, List.length_map, List.length_map, List.length_replicate, List.length_replicate, r.length]
  up := fun _ h => h
  trk0 := tr
  trk := tr
  ex := Ex.refl H
  tabs := tt
  gh := fun g h => nomatch h
  val := fun i p h => by
    unfold start0 at h
    by_cases hi : i < args.length
    · rw [List.getElem?_append_left (by rw [List.length_map]; exact hi), List.getElem?_map] at h
      cases e : args[i]? with
      | none => rw [e] at h; cases h
      | some q =>
        rw [e] at h
        cases h
        obtain ⟨v, h1, h2⟩ := r.get e
        refine ⟨v, ?_, h2⟩
        unfold L2.start
        rw [List.getElem?_append_left (by rw [List.length_map, r.length]; exact hi), List.getElem?_map, h1]
        rfl
    · rw [List.getElem?_append_right (by rw [List.length_map]; exact Nat.le_of_not_lt hi), List.getElem?_replicate] at h
      split at h <;> cases h
  own := fun i pin xs h => by
    unfold start0 at h
    by_cases hi : i < args.length
    · rw [List.getElem?_append_left (by rw [List.length_map]; exact hi), List.getElem?_map] at h
      cases e : args[i]? with
      | none => rw [e] at h; cases h
      | some q => rw [e] at h; cases h
    · rw [List.getElem?_append_right (by rw [List.length_map]; exact Nat.le_of_not_lt hi), List.getElem?_replicate] at h
      split at h <;> cases h
  dis := fun i j pi pj xs ys a h _ => by
    exfalso
    unfold start0 at h
    by_cases hi : i < args.length
    · rw [List.getElem?_append_left (by rw [List.length_map]; exact hi), List.getElem?_map] at h
      cases e : args[i]? with
      | none => rw [e] at h; cases h
      | some q => rw [e] at h; cases h
    · rw [List.getElem?_append_right (by rw [List.length_map]; exact Nat.le_of_not_lt hi), List.getElem?_replicate] at h
      split at h <;> cases h
/-- the place of a def's body -/
abbrev gam (P : Program) (w : World) (K : PySem.W.Frag) (mg : Str → Option Value) (base : Heap) (N : List Str) (st : Stmt) (k : Nat) (calm : Bool) : Gam := ⟨P, w, K, mg, base, N, defScope st, fun _ => true, k, calm, fun _ => True⟩
theorem out_of {K : PySem.W.Frag} {B : Bd} {H : Hp} {Q : VK} {E : XK} {r : Res} {out : Out} (o : Ends1 r out) (h : ResOk K B H Q E r) : OutOk K ⟨B, H, []⟩ { nx := fun _ H' => Q .non H', rt := Q } (fun c d _ H => E c d H) out := by
  cases o with
  | rt => exact h
  | nx => exact fun B1 σ H1 R => h _ H1 R.ex .n
  | xc => exact fun d ws B1 σ H1 R h1 h2 h3 => h d ws H1 R.ex h1 h2 (h3.anti R.up)
theorem spOf_len {K : PySem.W.Frag} {n : Nat} {R : Rel} : ∀ vs H Q E, spOf K n R vs H Q E → vs.length = n := fun vs H Q E h => by
  obtain ⟨_, args, r, B, rs, _, hl, _⟩ := h
  rw [rs.length]
  exact hl
section
variable {P : Program} {w : World} {K : PySem.W.Frag} {mg : Str → Option Value} {base : Heap}
theorem fn_def_ok {x : Str} {st : Stmt} {f : Addr} {fd : FuncData} {N ps : List Str} {k : Nat} {R : Rel} (F : Fun K x x st f fd) (S : FnScope N ps (defScope st))
    (body : ∀ args r, R args r → args.length = ps.length → ∃ out, Ends1 r out ∧ SS (gam P w K mg base N st k true) (start0 N.length args) (defBody st) out) : FnG P w K mg base (L2N.CX P w) (k + 1) f fd ps (spOf K ps.length R) := by
  obtain ⟨oc, od, kV, doc, pm, an, cdv, ct, osl, rfl, lk, hcd⟩ := F.ex
  refine fnG_of lk hcd S spOf_len fun A outer s H vs Q E gd hr hsp => ?_
  obtain ⟨tt, args, r, B, rs, tr, hl, hR, hres⟩ := hsp
  obtain ⟨out, ho, hss⟩ := body args r hR hl
  refine ⟨_, pss_w, ?_⟩
  exact hss _ (fun c d _ H => E c d H) ⟨rfl, rfl, rfl, rfl, rfl, rfl, rfl, rfl, rfl, S.nd, gd, L2H.roomH_of hr, fun _ => hr, (fun z => by cases z), trivial⟩ ⟨L2N.takes_of rfl rfl rfl rfl, passes_of rfl, rfl, rfl⟩ _ _ _ _ _ (start_env rs tr tt) (out_of ho hres)
theorem fn_def {x : Str} {st : Stmt} {f : Addr} {fd : FuncData} {N ps : List Str} {k : Nat} {R : Rel} (F : Fun K x x st f fd) (S : FnScope N ps (defScope st)) (hm : mg x = some (.ref f)) (hb : Binds K fd ps [])
    (body : ∀ args r, R args r → args.length = ps.length → ∃ out, Ends1 r out ∧ SS (gam P w K mg base N st k true) (start0 N.length args) (defBody st) out) : FnV P w K mg base (k + 1) x ps R := ⟨f, fd, hm, F.kp, fn_def_ok F S body, hb⟩
theorem fn_defH {x : Str} {st : Stmt} {f : Addr} {fd : FuncData} {N ps : List Str} {k : Nat} {R : Rel} (F : Fun K x x st f fd) (S : FnScope N ps (defScope st)) (hm : mg x = some (.ref f)) (hb : Binds K fd ps [])
    (body : ∀ args r, R args r → args.length = ps.length → ∃ out, Ends1 r out ∧ SS (gam P w K mg base N st k false) (start0 N.length args) (defBody st) out) : FnVH P w K mg base (k + 1) x ps R := by
  refine ⟨f, fd, hm, F.kp, ?_, hb⟩
  obtain ⟨oc, od, kV, doc, pm, an, cdv, ct, osl, rfl, lk, hcd⟩ := F.ex
  refine fnHG_of lk hcd S spOf_len fun A outer s H vs Q E p gd hot hr hsp => ?_
  obtain ⟨tt, args, r, B, rs, tr, hl, hR, hres⟩ := hsp
  obtain ⟨out, ho, hss⟩ := body args r hR hl
  refine ⟨_, pss_w, ?_⟩
  exact hss _ (fun c d _ H => E c d H) ⟨rfl, rfl, rfl, rfl, rfl, rfl, rfl, rfl, rfl, S.nd, gd, hr, (fun z => by cases z), (fun _ => ⟨p, hot, List.mem_cons_self⟩), trivial⟩ ⟨L2N.takes_of rfl rfl rfl rfl, passes_of rfl, rfl, rfl⟩ _ _ _ _ _ (start_env rs tr tt) (out_of ho hres)
end
end VL
namespace VL
open PySem PySem.Spec PyProof.Rows L2
variable [Tb]
open L2H (RoomH HotC FnH)
section
variable {K : PySem.W.Frag} {U : Und} {B : Bd} {H H' : Hp} {σ : L2.St} {ρ : List Sl}
def Und.add (U : Und) (g : V × PV) : Und := ⟨U.B0, U.H0, g :: U.gs⟩
theorem EnvR.keep (E : EnvR K U B H σ ρ) {g : V × PV} (h : VR K H B g.1 g.2) : EnvR K (U.add g) B H σ ρ :=
  ⟨E.len, E.up, E.trk0, E.trk, E.ex, E.tabs, fun g' hg => (List.mem_cons.mp hg).elim (fun e => e ▸ h) (E.gh g'), E.val, E.own, E.dis⟩
theorem EnvR.drop {g : V × PV} (E : EnvR K (U.add g) B H σ ρ) : EnvR K U B H σ ρ :=
  ⟨E.len, E.up, E.trk0, E.trk, E.ex, E.tabs, fun g' hg => E.gh g' (List.mem_cons_of_mem _ hg), E.val, E.own, E.dis⟩
theorem OutOk.add {D : Ends} {EE : WX} {g : V × PV} {out : Out} (h : OutOk K U D EE out) : OutOk K (U.add g) D EE out := by
  cases out with
  | nx ρ => exact fun B σ H R => h B σ H R.drop
  | rt p => exact h
  | rto ρ p => exact fun B v σ H R => h B v σ H R.drop
  | rtn xs => exact h
  | xc _ _ _ _ => exact fun d ws B σ H R => h d ws B σ H R.drop
  | bk ρ => exact fun B σ H R => h B σ H R.drop
  | ct ρ => exact fun B σ H R => h B σ H R.drop
theorem EnvR.gone (E : EnvR K U B H σ ρ) {a : Addr} (n : Fr H a) : Fr U.H0 a := VL.fresh_back E.ex n
end
/-! ### what is walked -/
def Items (K : PySem.W.Frag) (J : It) (H : Hp) (B : Bd) (its : List PV) : Prop := ∀ i, (i < its.length → J.go i H ∧ ∀ x H', J.yld i H x H' → H' = H ∧ ∃ p, its[i]? = some p ∧ VR K H B x p) ∧ (its.length ≤ i → J.stop i H)
def IV (G : Gam) (ρ : List Sl) (tg iter : Expr) (its : List PV) : Prop := ∀ X, Fits G X → ∃ wi, PI X tg iter wi ∧ ∀ (U : Und) (B : Bd) (σ : L2.St) (H : Hp) (R : It → Hp → Prop), EnvR G.K U B H σ ρ →
  (∀ (J : It) (g : V × PV) H1, Ex H H1 → VR G.K H1 B g.1 g.2 → (∀ B' H', VR G.K H' B' g.1 g.2 → Items G.K J H' B' its) → R J H1) → wi σ H R
theorem items_list {K : PySem.W.Frag} {B : Bd} {H : Hp} {a : Addr} {its : List PV} (h : VR K H B (.ref a) (.lst its)) : Items K (Itl K a) H B its := by
  obtain ⟨l, ws, e, hl, rs⟩ := vr_lst h
  cases e
  refine fun i => ⟨fun hi => ?_, fun hi => ⟨ws, hl.sq, by rw [rs.length]; exact hi⟩⟩
  obtain ⟨v, h1, h2⟩ := rs.get (List.getElem?_eq_getElem hi)
  refine ⟨⟨ws, v, hl.sq, h1⟩, fun x H' y => ⟨y.1, _, List.getElem?_eq_getElem hi, ?_⟩⟩
  have := (y.2 ws hl.sq).symm.trans h1
  cases this
  exact h2
theorem items_tup {K : PySem.W.Frag} {B : Bd} {H : Hp} {a : Addr} {its : List PV} (h : VR K H B (.ref a) (.tup its)) : Items K (Itt K a) H B its := by
  obtain ⟨l, ws, e, hl, rs⟩ := vr_tup h
  cases e
  refine fun i => ⟨fun hi => ?_, fun hi => ⟨ws, hl, by rw [rs.length]; exact hi⟩⟩
  obtain ⟨v, h1, h2⟩ := rs.get (List.getElem?_eq_getElem hi)
  refine ⟨⟨ws, v, hl, h1⟩, fun x H' y => ⟨y.1, _, List.getElem?_eq_getElem hi, ?_⟩⟩
  have := (y.2 ws hl).symm.trans h1
  cases this
  exact h2
def rng (lo : Int) (n : Nat) : List PV := (List.range n).map fun (k : Nat) => PV.int (lo + (k : Int))
theorem items_rng {K : PySem.W.Frag} {B : Bd} {H : Hp} {lo : Int} {n : Nat} : Items K (Itr lo n) H B (rng lo n) := by
  refine fun i => ⟨fun hi => ?_, fun hi => ?_⟩
  · have hn : i < n := by simpa [rng] using hi
    refine ⟨hn, fun x H' y => ⟨y.1, .int (lo + (i : Int)), by simp [rng, hn], ?_⟩⟩
    rw [y.2]
    exact .i
  · show n ≤ i
    simpa [rng] using hi
section
variable {G : Gam} {ρ : List Sl} {a b c e tg : Expr} {pos : Pos} {its : List PV} {i j : Int}
theorem iv_list (h : EV G ρ a (.lst its)) : IV G ρ tg a its := fun X hX => ⟨_, pi_list pe_w, fun U B σ H R E q => h X hX _ _ _ _ _ E fun v H1 e1 r1 => by
  obtain ⟨l, ws, rfl, hl, rs⟩ := vr_lst r1
  rw [hX.K]
  exact ⟨l, rfl, ⟨ws, hl.sq⟩, q _ (.ref l, .lst its) H1 e1 r1 fun B' H' h => items_list h⟩⟩
theorem iv_tup (h : EV G ρ a (.tup its)) : IV G ρ tg a its := fun X hX => ⟨_, pi_tup pe_w, fun U B σ H R E q => h X hX _ _ _ _ _ E fun v H1 e1 r1 => by
  obtain ⟨l, ws, rfl, hl, rs⟩ := vr_tup r1
  rw [hX.K]
  exact ⟨l, rfl, ⟨ws, hl⟩, q _ (.ref l, .tup its) H1 e1 r1 fun B' H' h => items_tup h⟩⟩
theorem iv_rng1 {p1 : Pos} (h : EV G ρ a (.int j)) (h1 : -(2 ^ 62) ≤ j) (h2 : j < 2 ^ 62) (hm : G.mg "range" = none) (hg : G.sc.names.lookup ("range" : Str) = some .globalImplicit := by first | rfl | decide +kernel) (hs : ∀ env, starEach [a] env = [(false, eval a env)] := by intro _; rfl) :
    IV G ρ tg (.Call (.Name "range" p1) [a] [] pos) (rng 0 j.toNat) := fun X hX => ⟨_, pi_range1 (hX.gl hg) (hX.nn hm) (pa_cons pe_w pa_nil (hs X.env)) (hs X.env), fun U B σ H R E q => h X hX _ _ _ _ _ E fun v H1 e1 r1 =>
      ⟨j, by rw [vr_int r1], h1, h2, q _ (.non, .non) H1 e1 .n fun _ _ _ => items_rng⟩⟩
theorem iv_rng2 {p1 : Pos} (ha : EV G ρ a (.int i)) (hb : EV G ρ b (.int j)) (h : -(2 ^ 62) ≤ i ∧ i < 2 ^ 62 ∧ -(2 ^ 62) ≤ j ∧ j < 2 ^ 62) (hm : G.mg "range" = none) (hg : G.sc.names.lookup ("range" : Str) = some .globalImplicit := by first | rfl | decide +kernel)
    (hs : ∀ env, starEach [a, b] env = [(false, eval a env), (false, eval b env)] := by intro _; rfl) (hs2 : ∀ env, starEach [b] env = [(false, eval b env)] := by intro _; rfl) :
    IV G ρ tg (.Call (.Name "range" p1) [a, b] [] pos) (rng i (j - i).toNat) := fun X hX => ⟨_, pi_range2 (hX.gl hg) (hX.nn hm) (pa_cons pe_w (pa_cons pe_w pa_nil (hs2 X.env)) (by rw [hs, hs2])) (hs X.env) (hs2 X.env), fun U B σ H R E q =>
      ha X hX _ _ _ _ _ E fun v H1 e1 r1 => hb X hX _ _ _ _ _ (E.mono e1) fun w H2 e2 r2 => ⟨i, j, by rw [vr_int r1, vr_int r2], h, q _ (.non, .non) H2 (e1.trans e2) .n fun _ _ _ => items_rng⟩⟩
end
/-! ### range objects that are kept -/
def iRngV (te : TE) : TI := fun σ H R => te σ H fun x H1 => ∃ (a : Addr) (lo hi : Int), x = .ref a ∧ H1 a = some (.rng lo hi) ∧ (-(2 ^ 62) ≤ lo ∧ lo < 2 ^ 62 ∧ -(2 ^ 62) ≤ hi ∧ hi < 2 ^ 62) ∧ R (Itr lo (hi - lo).toNat) H1
theorem pi_rngV {X : Cx} {tg e : Expr} {te : TE} (he : PE X e te) : PI X tg e (iRngV te) := ⟨fun pins s σ H R I h => thn (he.run pins s σ H _ I h) fun v s1 ⟨x, H1, I1, r1, a, lo, hi, ex, ha, ⟨b1, b2, b3, b4⟩, q⟩ => by
  subst ex
  cases (show v = Value.ref a from r1)
  obtain ⟨t, u, w, at1⟩ := I1.hok a _ ha
  have isR : IsRange s1.heap a lo hi 1 t u w := at1
  have cnt : (((hi - lo).toNat : Nat) : Int) - ((0 : Nat) : Int) = Builtin.Range.rangeSize lo hi 1 := by rw [rangeSize_one]; split <;> omega
  refine wpAny_pyIter_range isR (small_one b1 b2 b3 b4) ⟨s1.heap.objs.size, [s1.heap.objs.size], _, _, H1, rfl, I1.kept (t' := s1.toks) fun b o e => Heap.get?_push_of_some _ e, turn_range _ lo (hi - lo).toNat, ?_, fun b hb => ?_, q⟩
  · show IsRangeIter _ _ (lo + ((0 : Nat) : Int) * 1) ((((hi - lo).toNat : Nat) : Int) - ((0 : Nat) : Int)) 1
    rw [cnt, show lo + ((0 : Nat) : Int) * 1 = lo by simp]
    exact Heap.get?_push_size _ rfl
  · rw [show b = s1.heap.objs.size by simpa using hb]
    exact I1.fpOk (Nat.le_refl _) (I1.hok.fresh (Nat.le_refl _))⟩
theorem cr_range1 {X : Cx} : CallR X (.type "range") (fun vs H Q => ∃ j, vs = [V.int j] ∧ ∀ p, H p = none → Q (.ref p) (upd H p (.rng 0 j))) := by
  intro pins s σ H vs us Q I r h
  obtain ⟨j, rfl, q⟩ := h
  obtain ⟨u, rfl, t, rfl⟩ := vals1 r
  refine call_range_1 ⟨.ref s.heap.objs.size, upd H s.heap.objs.size (.rng 0 j), I.laid (t' := s.toks + 1 + 1) (fun b o e => Heap.get?_push_of_some _ e) (Nat.le_refl _) ⟨s.toks, t, s.toks + 1, Heap.get?_push_size _ rfl⟩, rfl, q _ (I.hok.fresh (Nat.le_refl _))⟩
section
variable {G : Gam} {ρ : List Sl} {a e tg : Expr} {pos : Pos} {lo hi j : Int}
theorem vr_rng {K : PySem.W.Frag} {H : Hp} {B : Bd} {v : V} (h : VR K H B v (.rng lo hi)) : ∃ a, v = .ref a ∧ H a = some (.rng lo hi) := by
  cases h with
  | rng a _ => exact ⟨_, rfl, a⟩
theorem ev_rng {p1 : Pos} (ha : EV G ρ a (.int j)) (hm : G.mg "range" = none) (hg : G.sc.names.lookup ("range" : Str) = some .globalImplicit := by first | rfl | decide +kernel) (hs : ∀ env, starEach [a] env = [(false, eval a env)] := by intro _; rfl) :
    EV G ρ (.Call (.Name "range" p1) [a] [] pos) (.rng 0 j) := fun X hX U B σ H Q E q =>
  of_pe (pe_callTy cr_range1 (hX.gl hg) (hX.nn hm) (by decide +kernel) (pa_cons pe_w pa_nil (hs X.env)) (by decide) (by decide) (hs X.env) rfl) (ha X hX _ _ _ _ _ E fun v H1 e1 r1 => ⟨j, by rw [vr_int r1], fun p np => q _ _ (e1.trans (Ex.new np)) (.rng upd_same .nil)⟩)
theorem iv_rngV (h : EV G ρ e (.rng lo hi)) (hb : -(2 ^ 62) ≤ lo ∧ lo < 2 ^ 62 ∧ -(2 ^ 62) ≤ hi ∧ hi < 2 ^ 62) : IV G ρ tg e (rng lo (hi - lo).toNat) := fun X hX => ⟨_, pi_rngV pe_w, fun U B σ H R E q => h X hX _ _ _ _ _ E fun v H1 e1 r1 => by
  obtain ⟨a, rfl, ha⟩ := vr_rng r1
  exact ⟨a, lo, hi, rfl, ha, hb, q _ (.non, .non) H1 e1 .n fun _ _ _ => items_rng⟩⟩
end
/-! ### targets -/
inductive Tg where
  | one (n : Nat) | many (ns : List Nat)
def setAll : List Nat → List PV → List Sl → List Sl
  | n :: ns, x :: xs, ρ => setAll ns xs (ρ.set n (.val x))
  | _, _, ρ => ρ
def Tg.bind : Tg → PV → List Sl → List Sl
  | .one n, x, ρ => ρ.set n (.val x)
  | .many ns, .tup xs, ρ => setAll ns xs ρ
  | .many _, _, ρ => ρ
def Tg.fits : Tg → PV → Prop
  | .one _, _ => True
  | .many ns, .tup xs => xs.length = ns.length
  | .many _, _ => False
def Tg.slots : Tg → List Nat
  | .one n => [n]
  | .many ns => ns
def BV (G : Gam) (tg : Expr) (T : Tg) : Prop := ∀ X, Fits G X → ∃ g, PG X tg g ∧ ∀ (U : Und) (B : Bd) (σ : L2.St) (H : Hp) (ρ : List Sl) (v : V) (x : PV) (Q : L2.St → Hp → Prop), EnvR G.K U B H σ ρ → VR G.K H B v x → T.fits x →
  (∀ σ', EnvR G.K U B H σ' (T.bind x ρ) → (∀ vs, (∀ n ∈ T.slots, n ∈ vs) → wipe σ' vs = wipe σ vs) → Q σ' H) → g v σ H Q
theorem wipe_at {σ : L2.St} {i n : Nat} : ∀ {vs : List Nat}, i ∈ vs → (wipe σ vs)[i]? = if i < σ.length then some none else none
  | v :: vs, h => by
    unfold wipe
    by_cases e : v = i
    · subst e
      rw [List.getElem?_set]
      simp [wipe_length]
    · rw [List.getElem?_set_ne e]
      exact wipe_at (n := n) ((List.mem_cons.mp h).resolve_left fun z => e z.symm)
theorem wipe_set {σ : L2.St} {n : Nat} {v : Option V} {vs : List Nat} (h : n ∈ vs) : wipe (σ.set n v) vs = wipe σ vs := by
  apply List.ext_getElem?
  intro i
  by_cases hi : i ∈ vs
  · rw [wipe_at (n := 0) hi, wipe_at (n := 0) hi, List.length_set]
  · rw [wipe_out hi, wipe_out hi, List.getElem?_set_ne (fun e => by subst e; exact hi h)]
section
variable {G : Gam} {ρ : List Sl} {pos : Pos}
theorem bv_one {n : Nat} {z : Str} (hi : G.N[n]? = some z) (hx : Loc G.sc z) (hf : G.fn z = true ∨ G.sc.names.lookup z = some .local := by first | exact .inl rfl | exact .inr rfl) : BV G (.Name z pos) (.one n) := fun X hX =>
  ⟨gName n, pg_name (i := n) (by rw [hX.N]; exact hX.nd) (by rw [hX.N]; exact hi) (hX.loc hx) (hX.fnl hf), fun U B σ H ρ v x Q E r _ q => q _ (E.set r) fun vs hv => wipe_set (hv n List.mem_cons_self)⟩
/-- the names of a written tuple -/
inductive Names1 (G : Gam) : List Expr → List Nat → Prop
  | nil : Names1 G [] []
  | cons {n : Nat} {z : Str} {p : Pos} {es : List Expr} {ns : List Nat} : G.N[n]? = some z → Loc G.sc z → (G.fn z = true ∨ G.sc.names.lookup z = some .local) → Names1 G es ns → Names1 G (.Name z p :: es) (n :: ns)
theorem Names1.pgs {es : List Expr} {ns : List Nat} (h : Names1 G es ns) : ∀ X, Fits G X → ∃ t, PGs X es t ∧ ∀ (U : Und) (B : Bd) (σ : L2.St) (H : Hp) (ρ : List Sl) (vs : List V) (xs : List PV) (Q : L2.St → Hp → Prop), EnvR G.K U B H σ ρ → VRs G.K H B vs xs → xs.length = ns.length →
    (∀ σ', EnvR G.K U B H σ' (setAll ns xs ρ) → (∀ us, (∀ n ∈ ns, n ∈ us) → wipe σ' us = wipe σ us) → Q σ' H) → t vs σ H Q := by
  induction h with
  | nil =>
    refine fun X hX => ⟨_, pgs_nil, fun U B σ H ρ vs xs Q E r hl q => ?_⟩
    cases xs with
    | cons _ _ => cases hl
    | nil =>
      cases vs with
      | cons _ _ => cases r
      | nil => exact ⟨rfl, q σ E fun _ _ => rfl⟩
  | @cons n z p es ns hi hx hf _ ih =>
    refine fun X hX => ?_
    obtain ⟨t, ht, hq⟩ := ih X hX
    refine ⟨_, pgs_cons (pg_name (i := n) (by rw [hX.N]; exact hX.nd) (by rw [hX.N]; exact hi) (hX.loc hx) (hX.fnl hf)) ht, fun U B σ H ρ vs xs Q E r hl q => ?_⟩
    cases xs with
    | nil => cases hl
    | cons x xs =>
      cases vs with
      | nil => cases r
      | cons v vs =>
        refine ⟨v, vs, rfl, ?_⟩
        refine hq U B _ H _ vs xs Q (E.set r.head) r.tail (by simpa using hl) fun σ' E' hw => q σ' E' fun us hu => ?_
        rw [hw us fun m hm => hu m (List.mem_cons_of_mem _ hm), wipe_set (hu n List.mem_cons_self)]
theorem bv_many {es : List Expr} {ns : List Nat} {k : Nat} (h : Names1 G es ns) (hc : G.calm = true) (hn : ∀ env, (assignEach es env).length = ns.length := by intro _; rfl) (hst : ∀ env, (assignEach es env).findIdx? (·.1) = none := by intro _; rfl) : BV G (.Tuple es k pos) (.many ns) := fun X hX => by
  obtain ⟨t, ht, hq⟩ := h.pgs X hX
  refine ⟨_, pg_tup (by rw [hX.calm]; exact hc) ht (hn X.env) (hst X.env), fun U B σ H ρ v x Q E r hf q => ?_⟩
  cases x with
  | tup xs =>
    obtain ⟨a, ws, rfl, hT, rs⟩ := vr_tup r
    exact ⟨a, ws, rfl, by rw [hX.K]; exact hT, rs.length.trans hf, hq U B σ H ρ ws xs Q E rs hf q⟩
  | non => cases hf
  | bl _ => cases hf
  | int _ => cases hf
  | str _ => cases hf
  | lst _ => cases hf
  | exc _ _ _ _ _ => exact False.elim hf
  | rng _ _ => exact False.elim hf
end
/-! ### for, while -/
inductive LoopV (G : Gam) (T : Tg) (body : List Stmt) : List PV → List Sl → Out → Prop
  | nil {ρ} : LoopV G T body [] ρ (.nx ρ)
  | next {x xs ρ ρ1 out} : T.fits x → SS G (T.bind x ρ) body (.nx ρ1) → LoopV G T body xs ρ1 out → LoopV G T body (x :: xs) ρ out
  | cont {x xs ρ ρ1 out} : T.fits x → SS G (T.bind x ρ) body (.ct ρ1) → LoopV G T body xs ρ1 out → LoopV G T body (x :: xs) ρ out
  | brk {x xs ρ ρ1} : T.fits x → SS G (T.bind x ρ) body (.bk ρ1) → LoopV G T body (x :: xs) ρ (.nx ρ1)
  | ret {x xs ρ p} : T.fits x → SS G (T.bind x ρ) body (.rt p) → LoopV G T body (x :: xs) ρ (.rt p)
  | exc {x xs ρ ρ1 C ns ys} : T.fits x → SS G (T.bind x ρ) body (.xc ρ1 C ns ys) → LoopV G T body (x :: xs) ρ (.xc ρ1 C ns ys)
inductive WhileV (G : Gam) (c : Expr) (body : List Stmt) : Nat → List Sl → Out → Prop
  | stop {n ρ} : TV G ρ c false → WhileV G c body n ρ (.nx ρ)
  | next {n ρ ρ1 out} : TV G ρ c true → SS G ρ body (.nx ρ1) → WhileV G c body n ρ1 out → WhileV G c body (n + 1) ρ out
  | cont {n ρ ρ1 out} : TV G ρ c true → SS G ρ body (.ct ρ1) → WhileV G c body n ρ1 out → WhileV G c body (n + 1) ρ out
  | brk {n ρ ρ1} : TV G ρ c true → SS G ρ body (.bk ρ1) → WhileV G c body n ρ (.nx ρ1)
  | ret {n ρ p} : TV G ρ c true → SS G ρ body (.rt p) → WhileV G c body n ρ (.rt p)
  | exc {n ρ ρ1 C ns ys} : TV G ρ c true → SS G ρ body (.xc ρ1 C ns ys) → WhileV G c body n ρ (.xc ρ1 C ns ys)
section
variable {G : Gam} {ρ : List Sl} {c iter tg : Expr} {body : List Stmt} {out : Out} {pos : Pos} {its : List PV} {T : Tg}
theorem sv_for (hc : G.calm = true) (hi : IV G ρ tg iter its) (hb : BV G tg T) (h : LoopV G T body its ρ out) (hs : ∀ env x, foldedSetIterable iter env x = pure x := by intro _ _; rfl) : SV G ρ (.For tg iter body [] pos) out := by
  intro X E hX hA U B σ H D R hD
  obtain ⟨wi, hpi, hwi⟩ := hi X hX
  obtain ⟨g, hpg, hgq⟩ := hb X hX
  refine of_ps (ps_for hA.po (by rw [hX.calm]; exact hc) hpi hpg pss_w (hs X.env)) ?_
  refine hwi U B σ H _ R fun J gh H1 e1 hgh hit => ?_
  refine ⟨fun i m σ H => ∃ (B : Bd) (ρ : List Sl), EnvR G.K (U.add gh) B H σ ρ ∧ m = its.length - i ∧ i ≤ its.length ∧ LoopV G T body (its.drop i) ρ out, ⟨its.length, B, ρ, (R.mono e1).keep hgh, rfl, Nat.zero_le _, h⟩, ?_⟩
  rintro i m σ1 H2 ⟨B2, ρ2, R2, rfl, hle, hL⟩
  have hI := hit B2 H2 (R2.gh gh List.mem_cons_self) i
  have hD2 := hD.add (g := gh)
  by_cases hlt : i < its.length
  · obtain ⟨hgo, hy⟩ := hI.1 hlt
    refine .inr ⟨hgo, ?_⟩
    rw [List.drop_eq_getElem_cons hlt] at hL
    have step : ∀ {o2 : Out} (N : L2.St → Hp → Prop), T.fits its[i] → SS G (T.bind its[i] ρ2) body o2 → OutOk G.K (U.add gh) { D with nx := N, ct := N, bk := D.nx } E o2 →
        ∀ x H', J.yld i H2 x H' → g x σ1 H' fun σ3 H3 => wB X body { D with nx := N, ct := N, bk := D.nx } σ3 H3 := fun {o2} N hf hss ho x H' y => by
      obtain ⟨rfl, p, hp, r⟩ := hy x H' y
      rw [List.getElem?_eq_getElem hlt] at hp
      cases hp
      exact hgq (U.add gh) B2 σ1 H' ρ2 x _ _ R2 r hf fun σ3 R3 _ => hss X E hX hA _ _ _ _ _ R3 ho
    cases hL with
    | next hf hss hr =>
      refine ⟨fun σ' H' => ∃ B', EnvR G.K (U.add gh) B' H' σ' _, fun σ' H' ⟨B', R'⟩ => ⟨its.length - (i + 1), by omega, B', _, R', rfl, hlt, hr⟩, step _ hf hss fun B' σ' H' R' => ⟨B', R'⟩⟩
    | cont hf hss hr =>
      refine ⟨fun σ' H' => ∃ B', EnvR G.K (U.add gh) B' H' σ' _, fun σ' H' ⟨B', R'⟩ => ⟨its.length - (i + 1), by omega, B', _, R', rfl, hlt, hr⟩, step _ hf hss fun B' σ' H' R' => ⟨B', R'⟩⟩
    | brk hf hss => exact ⟨fun _ _ => False, fun _ _ z => z.elim, step _ hf hss hD2⟩
    | ret hf hss => exact ⟨fun _ _ => False, fun _ _ z => z.elim, step _ hf hss hD2⟩
    | exc hf hss => exact ⟨fun _ _ => False, fun _ _ z => z.elim, step _ hf hss hD2⟩
  · refine .inl ⟨hI.2 (Nat.le_of_not_lt hlt), ?_⟩
    rw [List.drop_eq_nil_of_le (Nat.le_of_not_lt hlt)] at hL
    cases hL
    exact hD2 B2 σ1 H2 R2
theorem sv_while {n : Nat} (h : WhileV G c body n ρ out) : SV G ρ (.While c body [] pos) out := by
  intro X E hX hA U B σ H D R hD
  refine of_ps (ps_while hA.po pt_w pss_w) ?_
  refine ⟨fun m σ H => ∃ (B : Bd) (ρ : List Sl), EnvR G.K U B H σ ρ ∧ WhileV G c body m ρ out, ⟨n, B, ρ, R, h⟩, ?_⟩
  rintro m σ1 H1 ⟨B1, ρ1, R1, hw⟩
  have step : ∀ {o2 : Out} (N : L2.St → Hp → Prop), TV G ρ1 c true → SS G ρ1 body o2 → OutOk G.K U { D with nx := N, ct := N, bk := D.nx } E o2 → (∀ σ' H', N σ' H' → ∃ m', m' < m ∧ ∃ (B : Bd) (ρ : List Sl), EnvR G.K U B H' σ' ρ ∧ WhileV G c body m' ρ out) →
      wT X c σ1 H1 fun b H2 => if b = true then ∃ N : L2.St → Hp → Prop, (∀ σ' H', N σ' H' → ∃ m', m' < m ∧ ∃ (B : Bd) (ρ : List Sl), EnvR G.K U B H' σ' ρ ∧ WhileV G c body m' ρ out) ∧ wB X body { D with nx := N, ct := N, bk := D.nx } σ1 H2 else D.nx σ1 H2 :=
    fun {o2} N ht hss ho hN => ht X hX _ _ _ _ _ R1 fun H2 e2 => (if_pos rfl).mpr ⟨N, hN, hss X E hX hA _ _ _ _ _ (R1.mono e2) ho⟩
  cases hw with
  | stop ht => exact ht X hX _ _ _ _ _ R1 fun H2 e2 => (if_neg Bool.false_ne_true).mpr (hD B1 σ1 H2 (R1.mono e2))
  | next ht hss hr => exact step (fun σ' H' => ∃ B', EnvR G.K U B' H' σ' _) ht hss (fun B' σ' H' R' => ⟨B', R'⟩) fun σ' H' ⟨B', R'⟩ => ⟨_, Nat.lt_succ_self _, B', _, R', hr⟩
  | cont ht hss hr => exact step (fun σ' H' => ∃ B', EnvR G.K U B' H' σ' _) ht hss (fun B' σ' H' R' => ⟨B', R'⟩) fun σ' H' ⟨B', R'⟩ => ⟨_, Nat.lt_succ_self _, B', _, R', hr⟩
  | brk ht hss => exact step (fun _ _ => False) ht hss hD fun _ _ z => z.elim
  | ret ht hss => exact step (fun _ _ => False) ht hss hD fun _ _ z => z.elim
  | exc ht hss => exact step (fun _ _ => False) ht hss hD fun _ _ z => z.elim
end
end VL
namespace VL
open PySem PySem.Spec PyProof.Rows L2
variable [Tb]
open L2H (RoomH HotC FnH)
section
variable {K : PySem.W.Frag} {U : Und} {B : Bd} {H H' H1 : Hp} {σ : L2.St} {ρ : List Sl} {D : Addr} {o : HO}
/-- a new thing is put among what may not be touched -/
theorem EnvR.track (E : EnvR K U B H1 σ ρ) (n : Fr H1 D) (e : Ex H1 H) (h : H D = some o) (ho : ∀ ps, o ≠ .tbl ps := by intro _ z; cases z) : EnvR K U (fun a => B a ∨ a = D) H σ ρ where
  len := E.len
  up := fun b z => .inl (E.up b z)
  trk0 := E.trk0
  trk := fun b z => z.elim (fun z => (E.trk b z).ex e) fun z => ⟨o, z ▸ h, ho⟩
  ex := E.ex.trans e
  tabs := e.tb E.tabs
  gh := fun g hg => VRs.ext e (VRs.grow n (E.gh g hg))
  val := fun i p hp => let ⟨v, a, b⟩ := E.val i p hp; ⟨v, a, VRs.ext e (VRs.grow n b)⟩
  own := fun i pin xs hp => let ⟨a, vs, h1, h2, h3, h4, h5, h6⟩ := E.own i pin xs hp; ⟨a, vs, h1, e.lst h2, .inl h3, h4, VRs.ext e (VRs.grow n h5), h6⟩
  dis := E.dis
/-- a list among what may not be touched, that no slot owns, changes -/
theorem EnvR.mut (E : EnvR K U B H σ ρ) (hb : B D) {ys zs : List V} (hd : H D = some (.lst ys)) (h0 : Fr U.H0 D) (hno : ∀ (i : Nat) (pin : Option Addr) (xs : List PV), ρ[i]? = some (.ow pin xs) → σ[i]? ≠ some (some (.ref D))) : EnvR K U B (upd H D (.lst zs)) σ ρ where
  len := E.len
  up := E.up
  trk0 := E.trk0
  trk := fun b z => by
    by_cases e : b = D
    · exact ⟨_, by rw [e, upd_same], fun _ z => by cases z⟩
    · obtain ⟨o, q, n⟩ := E.trk b z
      exact ⟨o, (upd_ne e).trans q, n⟩
  ex := E.ex.mut h0 hd
  tabs := tabs_mut hd E.tabs
  gh := fun g hg => VRs.mut hb hd (E.gh g hg)
  val := fun i p hp => let ⟨v, a, b⟩ := E.val i p hp; ⟨v, a, VRs.mut hb hd b⟩
  own := fun i pin xs hp => by
    obtain ⟨a, vs, h1, h2, h3, h4, h5, h6⟩ := E.own i pin xs hp
    have ne : a ≠ D := fun e => hno i pin xs hp (e ▸ h1)
    exact ⟨a, vs, h1, (upd_ne ne).trans h2, h3, h4, VRs.mut hb hd h5, h6⟩
  dis := E.dis
theorem EnvR.unset (E : EnvR K U B H σ ρ) {n : Nat} : EnvR K U B H (σ.set n none) (ρ.set n .no) where
  len := by rw [List.length_set, List.length_set]; exact E.len
  up := E.up
  trk0 := E.trk0
  trk := E.trk
  ex := E.ex
  tabs := E.tabs
  gh := E.gh
  val := fun j q h => by
    by_cases e : n = j
    · subst e
      by_cases hl : n < ρ.length
      · rw [List.getElem?_set_self hl] at h; cases h
      · rw [List.getElem?_eq_none (by rw [List.length_set]; exact Nat.le_of_not_lt hl)] at h; cases h
    · rw [List.getElem?_set_ne e] at h
      rw [List.getElem?_set_ne e]
      exact E.val j q h
  own := fun j pin xs h => by
    by_cases e : n = j
    · subst e
      by_cases hl : n < ρ.length
      · rw [List.getElem?_set_self hl] at h; cases h
      · rw [List.getElem?_eq_none (by rw [List.length_set]; exact Nat.le_of_not_lt hl)] at h; cases h
    · rw [List.getElem?_set_ne e] at h
      rw [List.getElem?_set_ne e]
      exact E.own j pin xs h
  dis := fun j k pj pk xs ys a h1 h2 => by
    have ne : ∀ {j : Nat} {pj : Option Addr} {xs : List PV}, (ρ.set n .no)[j]? = some (.ow pj xs) → n ≠ j := fun {j pj xs} h e => by
      subst e
      by_cases hl : n < ρ.length
      · rw [List.getElem?_set_self hl] at h; cases h
      · rw [List.getElem?_eq_none (by rw [List.length_set]; exact Nat.le_of_not_lt hl)] at h; cases h
    have n1 := ne h1
    have n2 := ne h2
    rw [List.getElem?_set_ne n1] at h1 ⊢
    rw [List.getElem?_set_ne n2] at h2 ⊢
    exact E.dis j k pj pk xs ys a h1 h2
def wipeR (ρ : List Sl) : List Nat → List Sl
  | [] => ρ
  | v :: vs => (wipeR ρ vs).set v .no
theorem EnvR.wipe (E : EnvR K U B H σ ρ) : ∀ vs : List Nat, EnvR K U B H (wipe σ vs) (wipeR ρ vs)
  | [] => E
  | v :: vs => by
    unfold L2.wipe wipeR
    exact (EnvR.wipe E vs).unset
end
/-! ### a new list -/
def NV (G : Gam) (ρ : List Sl) (e : Expr) (xs : List PV) : Prop := ∀ X, Fits G X → ∀ (U : Und) (B : Bd) (σ : L2.St) (H : Hp) (Q : VK), EnvR G.K U B H σ ρ →
  (∀ l vs H', Ex H H' → Fr H l → H' l = some (.lst vs) → VRs G.K H' (fun a => B a ∨ a = l) vs xs → Q (.ref l) H') → wE X e σ H Q
section
variable {G : Gam} {ρ : List Sl} {a b c e : Expr} {es : List Expr} {pos : Pos} {xs : List PV} {p : PV} {i : Int}
theorem ev_nv (h : NV G ρ e xs) : EV G ρ e (.lst xs) := fun X hX U B σ H Q E q => h X hX _ _ _ _ _ E fun l vs H1 e1 n hl rs => q _ H1 e1 (.l (.inl ⟨E.fresh n, .inl hl⟩) (rs.anti fun a h => .inl h))
theorem lv_nv (h : NV G ρ e xs) : LV G ρ e xs := lv_val (ev_nv h)
theorem nv_lst (ha : AV G ρ es xs) (hl : xs.length ≤ 100000) : NV G ρ (.List es pos) xs := fun X hX U B σ H Q E q =>
  of_pe (pe_lst pa_w) (ha X hX _ _ _ _ _ E fun vs H1 e1 r1 => ⟨Evl.sz_of (by rw [r1.length]; exact hl), fun t nt => q t vs _ (e1.trans (Ex.new nt)) (VL.fresh_back e1 (.of nt)) upd_same ((r1.grow (.of nt)).ext (Ex.new nt))⟩)
theorem nv_rep (ha : NV G ρ a xs) (hb : EV G ρ b (.int i)) (h1 : -(2 ^ 63) ≤ i) (h2 : i < 2 ^ 63) (hl : xs.length * i.toNat ≤ 100000) : NV G ρ (.BinOp a .Mult b pos) (List.replicate i.toNat xs).flatten := fun X hX U B σ H Q E q =>
  of_pe (pe_op op_rep pe_w pe_w) (ha X hX _ _ _ _ _ E fun l vs H1 e1 n hl1 rs => hb X hX _ _ _ _ _ (E.mono e1) fun w H2 e2 r2 =>
    ⟨l, i, vs, rfl, vr_int r2, e2.lst hl1, h1, h2, Evl.sz_of (by rw [rs.length]; exact hl), fun t nt => q t _ _ ((e1.trans e2).trans (Ex.new nt)) (VL.fresh_back (e1.trans e2) (.of nt)) upd_same (by
      have base : VRs G.K (upd H2 t (.lst (List.replicate i.toNat vs).flatten)) (fun a => B a ∨ a = t) vs xs := VRs.ext (Ex.new nt) (VRs.grow (.of nt) (VRs.ext e2 (rs.anti fun a h => .inl h)))
      have rep : ∀ {H' : Hp} {B : Bd} (m : Nat), VRs G.K H' B vs xs → VRs G.K H' B (List.replicate m vs).flatten (List.replicate m xs).flatten := fun {H' B} m h => by
        induction m with
        | zero => exact .nil
        | succ m ih =>
          rw [List.replicate_succ, List.replicate_succ, List.flatten_cons, List.flatten_cons]
          exact h.append ih
      exact rep _ base)⟩)
end
/-! ### list comprehensions -/
def Gam.blk (G : Gam) (scope : Scope) : Gam := { G with sc := relS scope G.sc, fn := fun x => scope.names.lookup x == some .cell, ex := fun _ => True }
theorem Fits.blk {G : Gam} {X : Cx} (hX : Fits G X) (hc : G.calm = true) (s : Shared) (H : Hp) (scope : Scope) (C : Addr) (cl : List (Str × Addr)) (fp : List Addr) : Fits (G.blk scope) (X.blk s H scope (compEnvC scope cl C X.env) fp) :=
  ⟨hX.prog, hX.w, hX.K, hX.mg, hX.base, hX.N, (by
    show relS scope X.env.scope = relS scope G.sc
    rw [hX.sc]), rfl, hX.calm, hX.nd, hX.gd, hX.roomH, hX.room, (fun z => by
    have z' : G.calm = false := z
    rw [hc] at z'
    cases z'), trivial⟩
def wTs (X : Cx) (ifs : List Expr) : TT := fun σ H Q => ∃ t, PTs X ifs t ∧ t σ H Q
theorem pts_w {X : Cx} {ifs : List Expr} : PTs X ifs (wTs X ifs) := ⟨fun pins s σ H Q I ⟨t, h, q⟩ => h.run pins s σ H Q I q⟩
def wG (X : Cx) (tg : Expr) : TG := fun v σ H Q => ∃ g, PG X tg g ∧ g v σ H Q
theorem pg_w {X : Cx} {tg : Expr} : PG X tg (wG X tg) := ⟨fun pins s σ H v u Q I r ⟨g, h, q⟩ => h.run pins s σ H v u Q I r q⟩
def wI (X : Cx) (tg iter : Expr) : TI := fun σ H R => ∃ wi, PI X tg iter wi ∧ wi σ H R
theorem pi_w {X : Cx} {tg iter : Expr} : PI X tg iter (wI X tg iter) := ⟨fun pins s σ H R I ⟨wi, h, q⟩ => h.run pins s σ H R I q⟩
def TVs (G : Gam) (ρ : List Sl) (ifs : List Expr) (b : Bool) : Prop := ∀ X, Fits G X → ∀ (U : Und) (B : Bd) (σ : L2.St) (H : Hp) (Q : Bool → Hp → Prop), EnvR G.K U B H σ ρ → (∀ H', Ex H H' → Q b H') → wTs X ifs σ H Q
theorem tvs_nil {G : Gam} {ρ : List Sl} : TVs G ρ [] true := fun X hX U B σ H Q E q => ⟨_, pts_nil, q H (Ex.refl H)⟩
theorem tvs_one {G : Gam} {ρ : List Sl} {c : Expr} {b : Bool} (h : TV G ρ c b) : TVs G ρ [c] b := fun X hX U B σ H Q E q => ⟨_, pts_one pt_w, h X hX _ _ _ _ _ E q⟩
/-- for all blocks at once -/
def aT (X : Cx) (scope : Scope) (ifs : List Expr) : TT := fun σ H Q => ∀ (s : Shared) (H' : Hp) (C : Addr) (cl : List (Str × Addr)) (fp : List Addr), wTs (X.blk s H' scope (compEnvC scope cl C X.env) fp) ifs σ H Q
def aG (X : Cx) (scope : Scope) (tg : Expr) : TG := fun v σ H Q => ∀ (s : Shared) (H' : Hp) (C : Addr) (cl : List (Str × Addr)) (fp : List Addr), wG (X.blk s H' scope (compEnvC scope cl C X.env) fp) tg v σ H Q
def aE (X : Cx) (scope : Scope) (e : Expr) : TE := fun σ H Q => ∀ (s : Shared) (H' : Hp) (C : Addr) (cl : List (Str × Addr)) (fp : List Addr), wE (X.blk s H' scope (compEnvC scope cl C X.env) fp) e σ H Q
def aI (X : Cx) (scope : Scope) (tg iter : Expr) : TI := fun σ H R => ∀ (s : Shared) (H' : Hp) (C : Addr) (cl : List (Str × Addr)) (fp : List Addr), wI (X.blk s H' scope (compEnvC scope cl C X.env) fp) tg iter σ H R
section
variable {G : Gam} {ρ : List Sl} {elt tg iter tg1 iter1 : Expr} {ifs ifs1 : List Expr} {scope : Scope} {own : List (Str × Nat)} {pos spos : Pos} {its : List PV} {T T1 : Tg} {t : PV → Bool} {g : PV → PV}
theorem VRs.snoc {K : PySem.W.Frag} {H : Hp} {B : Bd} {vs : List V} {ps : List PV} {v : V} {p : PV} (h : VRs K H B vs ps) (r : VR K H B v p) : VRs K H B (vs ++ [v]) (ps ++ [p]) := h.append r
/-- the reading of [elt for tg in iter if ..] -/
theorem lc_read {X : Cx} (hX : Fits G X) (hc : G.calm = true) (hi : IV G ρ tg iter its) (hl : its.length ≤ 100000) (hb : BV (G.blk scope) tg T) (hT : ∀ n ∈ T.slots, n ∈ own.map (·.2))
    (hit : ∀ x ∈ its, T.fits x ∧ TVs (G.blk scope) (T.bind x (wipeR ρ (own.map (·.2)))) ifs (t x) ∧ (t x = true → EV (G.blk scope) (T.bind x (wipeR ρ (own.map (·.2)))) elt (g x)))
    {U : Und} {B : Bd} {σ : L2.St} {H : Hp} {Q : VK} (E : EnvR G.K U B H σ ρ) (q : ∀ l vs H', Ex H H' → Fr H l → H' l = some (.lst vs) → VRs G.K H' (fun a => B a ∨ a = l) vs ((its.filter t).map g) → Q (.ref l) H') :
    tLc (wI X tg iter) (aG X scope tg) (aT X scope ifs) (aE X scope elt) (own.map (·.2)) σ H Q := by
  obtain ⟨wi, hpi, hwi⟩ := hi X hX
  refine ⟨wi, hpi, hwi U B σ H _ E fun J gh H1 e1 hgh hit' => ?_⟩
  intro D nD
  refine ⟨fun i m H2 => m = its.length - i ∧ i ≤ its.length ∧ Ex H1 H2 ∧ ∃ ws, H2 D = some (.lst ws) ∧ VRs G.K H2 (fun a => B a ∨ a = D) ws (((its.take i).filter t).map g), ⟨its.length, rfl, Nat.zero_le _, Ex.new nD, [], upd_same, .nil⟩, ?_⟩
  rintro i m H2 ⟨rfl, hle, e2, ws, hD, rs⟩
  have E2 : EnvR G.K (U.add gh) (fun a => B a ∨ a = D) H2 σ ρ := ((E.mono e1).keep hgh).track (.of nD) e2 hD
  have hI := hit' _ H2 (E2.gh gh List.mem_cons_self) i
  by_cases hlt : i < its.length
  · obtain ⟨hgo, hy⟩ := hI.1 hlt
    have hmem := hit its[i] (List.getElem_mem hlt)
    obtain ⟨hfit, htv, hev⟩ := hmem
    have tk : its.take (i + 1) = its.take i ++ [its[i]] := by rw [List.take_add_one, List.getElem?_eq_getElem hlt]; rfl
    refine .inr ⟨hgo, fun H3 => Ex H1 H3 ∧ ∃ ws, H3 D = some (.lst ws) ∧ VRs G.K H3 (fun a => B a ∨ a = D) ws (((its.take (i + 1)).filter t).map g), fun H3 ⟨h1, h2⟩ => ⟨its.length - (i + 1), by omega, rfl, hlt, h1, h2⟩, fun x H' y => ?_⟩
    obtain ⟨rfl, p, hp, r⟩ := hy x H' y
    rw [List.getElem?_eq_getElem hlt] at hp
    cases hp
    intro s H'' C cl fp
    obtain ⟨gg, hpg, hgq⟩ := hb _ (hX.blk hc s H'' scope C cl fp)
    refine ⟨gg, hpg, hgq (U.add gh) _ _ H' _ x _ _ (E2.wipe _) r hfit fun σ3 E3 hw => ⟨?_, ?_⟩⟩
    · rw [hw _ hT]
      apply List.ext_getElem?
      intro k
      by_cases hk : k ∈ own.map (·.2)
      · rw [wipe_at (n := 0) hk, wipe_at (n := 0) hk, wipe_length]
      · rw [wipe_out hk]
    · intro s H'' C cl fp
      refine htv _ (hX.blk hc s H'' scope C cl fp) _ _ _ _ _ E3 fun H4 e4 => ?_
      by_cases hb' : t its[i] = true
      · rw [if_pos hb']
        intro s H'' C cl fp
        refine hev hb' _ (hX.blk hc s H'' scope C cl fp) _ _ _ _ _ (E3.mono e4) fun y H5 e5 r5 => ?_
        have hD5 : H5 D = some (.lst ws) := e5.lst (e4.lst hD)
        refine ⟨ws, hD5, ?_, ?_, ws ++ [y], upd_same, ?_⟩
        · refine Evl.sz_lt ?_
          rw [rs.length, List.length_map]
          have := List.length_filter_le t (its.take i)
          rw [List.length_take] at this
          omega
        · exact ((e2.trans e4).trans e5).mut (.of nD) hD5
        · rw [tk, List.filter_append, List.map_append]
          have e6 : ([its[i]].filter t).map g = [g its[i]] := by simp [hb']
          rw [e6]
          exact VRs.mut (.inr rfl) hD5 ((rs.ext (e4.trans e5)).snoc r5)
      · rw [if_neg hb']
        refine ⟨e2.trans e4, ws, e4.lst hD, ?_⟩
        rw [tk, List.filter_append, List.map_append]
        have e6 : ([its[i]].filter t).map g = [] := by simp [hb']
        rw [e6, List.append_nil]
        exact rs.ext e4
  · refine .inl ⟨hI.2 (Nat.le_of_not_lt hlt), ?_⟩
    have e3 : its.take i = its := List.take_of_length_le (Nat.le_of_not_lt hlt)
    rw [e3] at rs
    exact q D ws H2 (e1.trans e2) (VL.fresh_back e1 (.of nD)) hD rs
theorem nv_lc (hc : G.calm = true) (hi : IV G ρ tg iter its) (hl : its.length ≤ 100000) (ok : BlkOk G.N G.sc scope own) (hb : BV (G.blk scope) tg T) (hT : ∀ n ∈ T.slots, n ∈ own.map (·.2))
    (hit : ∀ x ∈ its, T.fits x ∧ TVs (G.blk scope) (T.bind x (wipeR ρ (own.map (·.2)))) ifs (t x) ∧ (t x = true → EV (G.blk scope) (T.bind x (wipeR ρ (own.map (·.2)))) elt (g x)))
    (hs : ∀ env x, foldedSetIterable iter env x = pure x := by intro _ _; rfl) : NV G ρ (.ListComp elt [⟨tg, iter, ifs, 0⟩] scope pos) ((its.filter t).map g) := fun X hX U B σ H Q E q =>
  of_pe (pe_lc (own := own) (by rw [hX.calm]; exact hc) (by rw [hX.N]; exact hX.nd) pi_w (by rw [hX.N, hX.sc]; exact ok) (g := aG X scope tg) (tt := aT X scope ifs) (te := aE X scope elt)
    (fun s H C cl fp => ⟨fun pins s' σ H' v u Q I r h => pg_w.run pins s' σ H' v u Q I r (h s H C cl fp)⟩) (fun s H C cl fp => ⟨fun pins s' σ H' Q I h => pts_w.run pins s' σ H' Q I (h s H C cl fp)⟩)
    (fun s H C cl fp => ⟨fun pins s' σ H' Q I h => pe_w.run pins s' σ H' Q I (h s H C cl fp)⟩) (hs X.env)) (lc_read hX hc hi hl hb hT hit E q)
end
end VL
namespace VL
open PySem PySem.Spec PyProof.Rows L2
variable [Tb]
open L2H (RoomH HotC FnH)
section
variable {K : PySem.W.Frag} {U : Und} {B : Bd} {H H' H1 : Hp} {σ : L2.St} {ρ : List Sl} {a D : Addr} {n : Nat} {xs ys : List PV} {vs ws : List V}
theorem set_get {α : Type} {l : List α} {i j : Nat} {x y : α} (h : (l.set i x)[j]? = some y) : (i = j ∧ y = x) ∨ (i ≠ j ∧ l[j]? = some y) := by
  by_cases e : i = j
  · subst e
    by_cases hl : i < l.length
    · rw [List.getElem?_set_self hl] at h; exact .inl ⟨rfl, (Option.some.inj h).symm⟩
    · rw [List.getElem?_eq_none (by rw [List.length_set]; exact Nat.le_of_not_lt hl)] at h; cases h
  · rw [List.getElem?_set_ne e] at h
    exact .inr ⟨e, h⟩
theorem get_lt {α : Type} {l : List α} {i : Nat} {y : α} (h : l[i]? = some y) : i < l.length := (List.getElem?_eq_some_iff.mp h).1
/-- a slot gets a list of its own -/
theorem EnvR.setOwn (E : EnvR K U B H σ ρ) (h : H a = some (.lst vs)) (hb : B a) (h0 : Fr U.H0 a) (r : VRs K H B vs xs) (hno : ∀ (j : Nat) (pin : Option Addr) (zs : List PV), ρ[j]? = some (.ow pin zs) → j ≠ n → σ[j]? ≠ some (some (.ref a))) : EnvR K U B H (σ.set n (some (.ref a))) (ρ.set n (.own xs)) where
  len := by rw [List.length_set, List.length_set]; exact E.len
  up := E.up
  trk0 := E.trk0
  trk := E.trk
  ex := E.ex
  tabs := E.tabs
  gh := E.gh
  val := fun j q hq => by
    rcases set_get hq with ⟨_, e⟩ | ⟨e, hq⟩
    · cases e
    · rw [List.getElem?_set_ne e]
      exact E.val j q hq
  own := fun j pin zs hq => by
    have hl := get_lt hq
    rw [List.length_set] at hl
    rcases set_get hq with ⟨e, e'⟩ | ⟨e, hq⟩
    · cases e'
      subst e
      exact ⟨a, vs, List.getElem?_set_self (by rw [E.len]; exact hl), h, hb, h0, r, fun b z => by cases z⟩
    · rw [List.getElem?_set_ne e]
      exact E.own j pin zs hq
  dis := fun i j pi pj zs us b h1 h2 h3 h4 => by
    have l1 := get_lt h1
    have l2 := get_lt h2
    rw [List.length_set, ← E.len] at l1 l2
    rcases set_get h1 with ⟨e1, _⟩ | ⟨e1, h1⟩
    · rcases set_get h2 with ⟨e2, _⟩ | ⟨e2, h2⟩
      · exact e1.symm.trans e2
      · subst e1
        rw [List.getElem?_set_self l1] at h3
        rw [List.getElem?_set_ne e2] at h4
        cases h3
        exact absurd h4 (hno j pj us h2 (Ne.symm e2))
    · rcases set_get h2 with ⟨e2, _⟩ | ⟨e2, h2⟩
      · subst e2
        rw [List.getElem?_set_self l2] at h4
        rw [List.getElem?_set_ne e1] at h3
        cases h4
        exact absurd h3 (hno i pi zs h1 (Ne.symm e1))
      · rw [List.getElem?_set_ne e1] at h3
        rw [List.getElem?_set_ne e2] at h4
        exact E.dis i j pi pj zs us b h1 h2 h3 h4
/-- the list that a slot owns changes -/
theorem EnvR.mutOwn {pin : Option Addr} (E : EnvR K U B H σ ρ) (hn : ρ[n]? = some (.ow pin xs)) (hs : σ[n]? = some (some (.ref a))) (h : H a = some (.lst vs)) (r : VRs K H B ws ys) : EnvR K U B (upd H a (.lst ws)) σ (ρ.set n (.ow pin ys)) := by
  obtain ⟨a', vs', h1, h2, h3, h4, h5, h6⟩ := E.own n pin xs hn
  rw [hs] at h1
  cases h1
  refine ⟨by rw [List.length_set]; exact E.len, E.up, E.trk0, fun b z => ?_, E.ex.mut h4 h, tabs_mut h E.tabs, fun g hg => VRs.mut h3 h (E.gh g hg), fun j q hq => ?_, fun j pj zs hq => ?_, fun i j pi pj zs us b h1 h2 h3 h4 => ?_⟩
  · by_cases e : b = a
    · exact ⟨_, by rw [e, upd_same], fun _ z => by cases z⟩
    · obtain ⟨o, q, n⟩ := E.trk b z
      exact ⟨o, (upd_ne e).trans q, n⟩
  · rcases set_get hq with ⟨_, e⟩ | ⟨e, hq⟩
    · cases e
    · obtain ⟨v, q1, q2⟩ := E.val j q hq
      exact ⟨v, q1, VRs.mut h3 h q2⟩
  · rcases set_get hq with ⟨e, e'⟩ | ⟨e, hq⟩
    · cases e'
      subst e
      exact ⟨a, ws, hs, upd_same, h3, h4, VRs.mut h3 h r, h6⟩
    · obtain ⟨b, us, q1, q2, q3, q4, q5, q6⟩ := E.own j pj zs hq
      have ne : b ≠ a := fun z => e (E.dis n j pin pj xs zs a hn hq hs (z ▸ q1))
      exact ⟨b, us, q1, (upd_ne ne).trans q2, q3, q4, VRs.mut h3 h q5, q6⟩
  · have back : ∀ {j : Nat} {pj : Option Addr} {zs : List PV}, (ρ.set n (.ow pin ys))[j]? = some (.ow pj zs) → ∃ pk zs', ρ[j]? = some (.ow pk zs') := fun {j pj zs} hq => by
      rcases set_get hq with ⟨e, _⟩ | ⟨_, hq⟩
      · exact ⟨pin, xs, e ▸ hn⟩
      · exact ⟨pj, zs, hq⟩
    obtain ⟨k1, z1, q1⟩ := back h1
    obtain ⟨k2, z2, q2⟩ := back h2
    exact E.dis i j k1 k2 z1 z2 b q1 q2 h3 h4
/-- a list of one's own becomes a value -/
theorem EnvR.freeze {pin : Option Addr} (E : EnvR K U B H σ ρ) (hn : ρ[n]? = some (.ow pin xs)) : ∃ B', EnvR K U B' H σ (ρ.set n (.val (.lst xs))) := by
  obtain ⟨a, vs, h1, h2, h3, h4, h5, h6⟩ := E.own n pin xs hn
  have sub : ∀ b, (B b ∧ b ≠ a) → B b := fun _ h => h.1
  refine ⟨fun b => B b ∧ b ≠ a, by rw [List.length_set]; exact E.len, fun b z => ⟨E.up b z, fun e => ?_⟩, E.trk0, fun b z => E.trk b z.1, E.ex, E.tabs, fun g hg => VRs.anti sub (E.gh g hg), fun j q hq => ?_, fun j pj zs hq => ?_, fun i j pi pj zs us b h1 h2 h3 h4 => ?_⟩
  · exact h4.no (e ▸ E.trk0 b z)
  · rcases set_get hq with ⟨e, e'⟩ | ⟨e, hq⟩
    · cases e'
      subst e
      exact ⟨_, h1, .l (.inl ⟨fun z => z.2 rfl, .inl h2⟩) (VRs.anti sub h5)⟩
    · obtain ⟨v, q1, q2⟩ := E.val j q hq
      exact ⟨v, q1, VRs.anti sub q2⟩
  · rcases set_get hq with ⟨e, e'⟩ | ⟨e, hq⟩
    · cases e'
    · obtain ⟨b, us, q1, q2, q3, q4, q5, q6⟩ := E.own j pj zs hq
      have ne : b ≠ a := fun z => e (E.dis n j pin pj xs zs a hn hq h1 (z ▸ q1))
      exact ⟨b, us, q1, q2, ⟨q3, ne⟩, q4, VRs.anti sub q5, q6⟩
  · rcases set_get h1 with ⟨_, e⟩ | ⟨_, h1⟩
    · cases e
    · rcases set_get h2 with ⟨_, e⟩ | ⟨_, h2⟩
      · cases e
      · exact E.dis i j pi pj zs us b h1 h2 h3 h4
/-- a new list for a slot -/
theorem EnvR.newOwn (E : EnvR K U B H σ ρ) (nD : Fr H D) (e : Ex H H1) (hD : H1 D = some (.lst vs)) (r : VRs K H1 (fun b => B b ∨ b = D) vs xs) : EnvR K U (fun b => B b ∨ b = D) H1 (σ.set n (some (.ref D))) (ρ.set n (.own xs)) :=
  (E.track nD e hD).setOwn hD (.inr rfl) (E.gone nD) r fun j pj zs hj _ hs => by
    obtain ⟨b, us, q1, q2, _⟩ := E.own j pj zs hj
    rw [hs] at q1
    cases q1
    exact nD.lst q2
end
section
variable {G : Gam} {ρ : List Sl} {a b c e : Expr} {es : List Expr} {st : Stmt} {sts : List Stmt} {out : Out} {pos p1 p2 p3 : Pos} {xs : List PV} {p q : PV} {i : Int} {n : Nat} {z : Str}
theorem ss_freeze {pin : Option Addr} (hn : ρ[n]? = some (.ow pin xs)) (h : SS G (ρ.set n (.val (.lst xs))) sts out) : SS G ρ sts out := fun X E hX hA U B σ H D R hD => by
  obtain ⟨B', R'⟩ := R.freeze hn
  exact h X E hX hA U B' σ H D R' hD
theorem sv_freeze {pin : Option Addr} (hn : ρ[n]? = some (.ow pin xs)) (h : SV G (ρ.set n (.val (.lst xs))) st out) : SV G ρ st out := fun X E hX hA U B σ H D R hD => by
  obtain ⟨B', R'⟩ := R.freeze hn
  exact h X E hX hA U B' σ H D R' hD
theorem sv_own (hi : G.N[n]? = some z) (hx : Loc G.sc z) (he : NV G ρ e xs) (hf : G.fn z = true ∨ G.sc.names.lookup z = some .local := by first | exact .inl rfl | exact .inr rfl)
    (hs : ∀ env, swapsWith e (some (.Name z p1)) pos.line env = pure false := by intro _; rfl) : SV G ρ (.Assign [.Name z p1] e pos) (.nx (ρ.set n (.own xs))) := fun X E hX hA U B σ H D R h =>
  of_ps (ps_set (i := n) (by rw [hX.N]; exact hX.nd) (by rw [hX.N]; exact hi) (hX.loc hx) pe_w (hs X.env) (hX.fnl hf)) (he X hX _ _ _ _ _ R fun l vs H1 e1 nl hl rs => h _ _ H1 (R.newOwn nl e1 hl rs))
/-- x.append(e) -/
theorem sv_append {pin : Option Addr} (hi : G.N[n]? = some z) (hv : Vis G.sc z) (hn : ρ[n]? = some (.ow pin xs)) (he : EV G ρ e p) (hl : xs.length < 100000) (hd : (z == ("__debug__" : Str)) = false := by decide) (hcd : (z == ("__classdict__" : Str)) = false := by decide)
    (hs : ∀ env, starEach [e] env = [(false, eval e env)] := by intro _; rfl) (hbase : ∀ env, attributeBase (.Name z p1) "append" env (eval (.Name z p1) env) = eval (.Name z p1) env := by intro _; rfl) (hline : (p2.endLine == p3.line) = true := by rfl) :
    SV G ρ (.Expr (.Call (.Attribute (.Name z p1) "append" p2) [e] [] p3) pos) (.nx (ρ.set n (.ow pin (xs ++ [p])))) := fun X E hX hA U B σ H D R h => by
  obtain ⟨l, vs, h1, h2, h3, h4, h5, h6⟩ := R.own n pin xs hn
  have few : ((backTo p3 (starEach [e] X.env)).all (fun x => !x.1) && (backToKw p3 (keywordEach [] X.env)).all (fun x => x.1.isSome) && decide ([e].length + ([] : List Keyword).length + (if ([] : List Keyword).isEmpty then 0 else 1) < 30)) = true := by rw [hs X.env]; rfl
  refine of_ps (ps_expr (pe_bm PySem.F.plainAttrs_list PySem.F.slot_list_append PySem.F.type_list_append mt_append (pe_var (i := n) (by rw [hX.N]; exact hi) (by rw [hX.sc]; exact hv) hd hcd) (pa_cons pe_w pa_nil (hs X.env)) (hbase X.env) few hline (hs X.env) rfl)) ?_
  refine ⟨_, h1, .inl ⟨rfl, _, Evl.sq_of h2⟩, he X hX _ _ _ _ _ R fun v H1 e1 r1 => ?_⟩
  have h2' := e1.lst h2
  refine ⟨l, vs, v, rfl, rfl, h2', Evl.sz_lt (by rw [h5.length]; exact hl), h B σ _ ((R.mono e1).mutOwn hn h1 h2' ((h5.ext e1).snoc r1))⟩
/-- x[i] = e -/
theorem sv_setAt {m : Nat} {pin : Option Addr} (hi : G.N[n]? = some z) (hv : Vis G.sc z) (hn : ρ[n]? = some (.ow pin xs)) (he : EV G ρ e p) (hb : EV G ρ b (.int i)) (him : i = (m : Int)) (hm : m < xs.length) (hd : (z == ("__debug__" : Str)) = false := by decide) (hcd : (z == ("__classdict__" : Str)) = false := by decide)
    (hs : ∀ env, swapsWithSole [.Subscript (.Name z p1) b p2] e pos.line env = pure false := by intro _; rfl) (hw : ∀ env, swappedStores [.Subscript (.Name z p1) b p2] e env = pure none := by intro _; rfl)
    (h1' : ∀ env, (assignEach [.Subscript (.Name z p1) b p2] env).map (·.2) = [assign (.Subscript (.Name z p1) b p2) env] := by intro _; rfl)
    (ha : ∀ env v, assign (.Subscript (.Name z p1) b p2) env v = (do
      let ov ← holding [v] (eval (.Name z p1) env)
      let iv ← holding [v, ov] (eval b env)
      standAt p2
      holding [v, ov, iv] (setItem ov iv v)
      release [v, ov, iv] []) := by intro _ _; rfl) : SV G ρ (.Assign [.Subscript (.Name z p1) b p2] e pos) (.nx (ρ.set n (.ow pin (xs.set m p)))) := fun X E hX hA U B σ H D R h => by
  obtain ⟨l, vs, h1, h2, h3, h4, h5, h6⟩ := R.own n pin xs hn
  refine of_ps (ps_asg pe_w (pg_sub (pe_var (i := n) (by rw [hX.N]; exact hi) (by rw [hX.sc]; exact hv) hd hcd) pe_w set_list (ha X.env)) (hs X.env) (hw X.env) (h1' X.env)) ?_
  refine he X hX _ _ _ _ _ R fun v H1 e1 r1 => ⟨_, h1, hb X hX _ _ _ _ _ (R.mono e1) fun w H2 e2 r2 => ?_⟩
  have h2' := e2.lst (e1.lst h2)
  refine ⟨l, vs, i, m, rfl, vr_int r2, h2', by rw [him]; exact Evl.ixN_nat (by rw [h5.length]; exact hm), h B σ _ ((R.mono (e1.trans e2)).mutOwn hn h1 h2' ((h5.ext (e1.trans e2)).set (r1.ext e2) m))⟩
/-- names of a written tuple get the items of a tuple -/
theorem sv_unpack {ts : List Expr} {ns : List Nat} {k : Nat} (h : Names1 G ts ns) (hc : G.calm = true) (he : EV G ρ e (.tup xs)) (hl : xs.length = ns.length) (hn : ∀ env, (assignEach ts env).length = ns.length := by intro _; rfl) (hst : ∀ env, (assignEach ts env).findIdx? (·.1) = none := by intro _; rfl)
    (hs : ∀ env, swapsWithSole [.Tuple ts k p1] e pos.line env = pure false := by intro _; rfl) (hw : ∀ env, swappedStores [.Tuple ts k p1] e env = pure none := by intro _; rfl)
    (h1' : ∀ env, (assignEach [.Tuple ts k p1] env).map (·.2) = [assign (.Tuple ts k p1) env] := by intro _; rfl) : SV G ρ (.Assign [.Tuple ts k p1] e pos) (.nx (setAll ns xs ρ)) := fun X E hX hA U B σ H D R hD => by
  obtain ⟨g, hg, hq⟩ := bv_many (k := k) (pos := p1) h hc hn hst X hX
  refine of_ps (ps_asg pe_w hg (hs X.env) (hw X.env) (h1' X.env)) (he X hX _ _ _ _ _ R fun v H1 e1 r1 => ?_)
  exact hq U B σ H1 ρ v (.tup xs) _ (R.mono e1) r1 hl fun σ' R' _ => hD B σ' H1 R'
/-- x, y = a, b -/
theorem sv_par {m : Nat} {y : Str} {kt k2 : Nat} {pt2 : Pos} (hc : G.calm = true) (hi : G.N[n]? = some z) (hj : G.N[m]? = some y) (hij : n ≠ m) (hx : G.sc.names.lookup z = some .local) (hy : G.sc.names.lookup y = some .local) (ha : EV G ρ a p) (hb : EV G ρ b q)
    (hw : ∀ env : Env, env.scope = G.sc → swappedStores [.Tuple [.Name z p1, .Name y p2] kt p3] (.Tuple [a, b] k2 pt2) env = pure (some [z, y]))
    (hs : ∀ env, swapsWithSole [.Tuple [.Name z p1, .Name y p2] kt p3] (.Tuple [a, b] k2 pt2) pos.line env = pure false := by intro _; rfl)
    (hs1 : ∀ env, starEach [a, b] env = [(false, eval a env), (false, eval b env)] := by intro _; rfl) (hs2 : ∀ env, starEach [b] env = [(false, eval b env)] := by intro _; rfl) :
    SV G ρ (.Assign [.Tuple [.Name z p1, .Name y p2] kt p3] (.Tuple [a, b] k2 pt2) pos) (.nx ((ρ.set n (.val p)).set m (.val q))) := fun X E hX hA U B σ H D R hD =>
  of_ps (ps_par (i := n) (j := m) (by rw [hX.calm]; exact hc) (by rw [hX.N]; exact hX.nd) (by rw [hX.N]; exact hi) (by rw [hX.N]; exact hj) hij (by rw [hX.sc]; exact hx) (by rw [hX.sc]; exact hy) (pa_cons pe_w (pa_cons pe_w pa_nil (hs2 X.env)) (by rw [hs1, hs2])) (hw X.env hX.sc) (hs X.env))
    (ha X hX _ _ _ _ _ R fun v H1 e1 r1 => hb X hX _ _ _ _ _ (R.mono e1) fun w H2 e2 r2 => ⟨v, w, rfl, hD B _ H2 (((R.mono (e1.trans e2)).set (r1.ext e2)).set r2)⟩)
end
/-! ### a comprehension is stored -/
section
variable {G : Gam} {ρ : List Sl} {elt tg iter : Expr} {ifs : List Expr} {scope : Scope} {own : List (Str × Nat)} {pos spos py : Pos} {its : List PV} {T : Tg} {t : PV → Bool} {g : PV → PV} {n : Nat} {z : Str}
theorem sv_lcO (hi' : G.N[n]? = some z) (hz : G.sc.names.lookup z = some .local) (hk : G.sc.kind = .function) (hln : (py.line == pos.line) = true) (han : (scope.names.any fun (n, k) => n == z && (k == .local || k == .cell)) = false)
    (hc : G.calm = true) (hi : IV G ρ tg iter its) (hl : its.length ≤ 100000) (ok : BlkOk G.N G.sc scope own) (hb : BV (G.blk scope) tg T) (hT : ∀ n ∈ T.slots, n ∈ own.map (·.2))
    (hit : ∀ x ∈ its, T.fits x ∧ TVs (G.blk scope) (T.bind x (wipeR ρ (own.map (·.2)))) ifs (t x) ∧ (t x = true → EV (G.blk scope) (T.bind x (wipeR ρ (own.map (·.2)))) elt (g x)))
    (hs : ∀ env x, foldedSetIterable iter env x = pure x := by intro _ _; rfl) : SV G ρ (.Assign [.Name z py] (.ListComp elt [⟨tg, iter, ifs, 0⟩] scope pos) spos) (.nx (ρ.set n (.own ((its.filter t).map g)))) := fun X E hX hA U B σ H D R h =>
  of_ps (ps_setLc (i := n) (own := own) (by rw [hX.calm]; exact hc) (by rw [hX.N]; exact hX.nd) (by rw [hX.N]; exact hi') (by rw [hX.sc]; exact hz) (sw_true (by rw [hX.sc]; exact hk) (by rw [hX.sc]; exact hz) hln han) pi_w (by rw [hX.N, hX.sc]; exact ok) (g := aG X scope tg) (tt := aT X scope ifs) (te := aE X scope elt)
    (fun s H C cl fp => ⟨fun pins s' σ H' v u Q I r h => pg_w.run pins s' σ H' v u Q I r (h s H C cl fp)⟩) (fun s H C cl fp => ⟨fun pins s' σ H' Q I h => pts_w.run pins s' σ H' Q I (h s H C cl fp)⟩)
    (fun s H C cl fp => ⟨fun pins s' σ H' Q I h => pe_w.run pins s' σ H' Q I (h s H C cl fp)⟩) (hs X.env)) (lc_read hX hc hi hl hb hT hit R fun l vs H1 e1 nl hl rs => h _ _ H1 (R.newOwn nl e1 hl rs))
theorem ss_own_val {ρ : List Sl} {n : Nat} {xs : List PV} {st : Stmt} {rest : List Stmt} {out : Out} (h1 : SV G ρ st (.nx (ρ.set n (.own xs)))) (hn : n < ρ.length) (h2 : SS G (ρ.set n (.val (.lst xs))) rest out) : SS G ρ (st :: rest) out :=
  ss_cons h1 (ss_freeze (List.getElem?_set_self hn) (by rw [List.set_set]; exact h2))
end
end VL
namespace VL
open PySem PySem.Spec PyProof.Rows L2
variable [Tb]
section
variable {G : Gam} {ρ : List Sl} {elt tg iter : Expr} {ifs : List Expr} {scope : Scope} {own : List (Str × Nat)} {pos spos py : Pos} {T : Tg} {α : Type} {xs : List α} {inj : α → PV} {t : α → Bool} {g : α → PV} {n : Nat} {z : Str}
theorem NV.to {e : Expr} {xs ys : List PV} (h : NV G ρ e xs) (q : xs = ys) : NV G ρ e ys := q ▸ h
theorem EV.to {e : Expr} {p q : PV} (h : EV G ρ e p) (z : p = q) : EV G ρ e q := z ▸ h
theorem TV.to {e : Expr} {p q : Bool} (h : TV G ρ e p) (z : p = q) : TV G ρ e q := z ▸ h
theorem IV.to {e tg : Expr} {p q : List PV} (h : IV G ρ tg e p) (z : p = q) : IV G ρ tg e q := z ▸ h
theorem SS.to {sts : List Stmt} {p q : Out} (h : SS G ρ sts p) (z : p = q) : SS G ρ sts q := z ▸ h
/-- over items of a kind -/
theorem lc_readM {X : Cx} (hX : Fits G X) (hc : G.calm = true) (hi : IV G ρ tg iter (xs.map inj)) (hl : xs.length ≤ 100000) (hb : BV (G.blk scope) tg T) (hT : ∀ n ∈ T.slots, n ∈ own.map (·.2))
    (hit : ∀ x ∈ xs, T.fits (inj x) ∧ TVs (G.blk scope) (T.bind (inj x) (wipeR ρ (own.map (·.2)))) ifs (t x) ∧ (t x = true → EV (G.blk scope) (T.bind (inj x) (wipeR ρ (own.map (·.2)))) elt (g x)))
    {U : Und} {B : Bd} {σ : L2.St} {H : Hp} {Q : VK} (E : EnvR G.K U B H σ ρ) (q : ∀ l vs H', Ex H H' → Fr H l → H' l = some (.lst vs) → VRs G.K H' (fun a => B a ∨ a = l) vs ((xs.filter t).map g) → Q (.ref l) H') :
    tLc (wI X tg iter) (aG X scope tg) (aT X scope ifs) (aE X scope elt) (own.map (·.2)) σ H Q := by
  obtain ⟨wi, hpi, hwi⟩ := hi X hX
  refine ⟨wi, hpi, hwi U B σ H _ E fun J gh H1 e1 hgh hit' => ?_⟩
  intro D nD
  refine ⟨fun i m H2 => m = xs.length - i ∧ i ≤ xs.length ∧ Ex H1 H2 ∧ ∃ ws, H2 D = some (.lst ws) ∧ VRs G.K H2 (fun a => B a ∨ a = D) ws (((xs.take i).filter t).map g), ⟨xs.length, rfl, Nat.zero_le _, Ex.new nD, [], upd_same, .nil⟩, ?_⟩
  rintro i m H2 ⟨rfl, hle, e2, ws, hD, rs⟩
  have E2 : EnvR G.K (U.add gh) (fun a => B a ∨ a = D) H2 σ ρ := ((E.mono e1).keep hgh).track (.of nD) e2 hD
  have hI := hit' _ H2 (E2.gh gh List.mem_cons_self) i
  rw [List.length_map] at hI
  by_cases hlt : i < xs.length
  · obtain ⟨hgo, hy⟩ := hI.1 hlt
    have hmem := hit xs[i] (List.getElem_mem hlt)
    obtain ⟨hfit, htv, hev⟩ := hmem
    have tk : xs.take (i + 1) = xs.take i ++ [xs[i]] := by rw [List.take_add_one, List.getElem?_eq_getElem hlt]; rfl
    refine .inr ⟨hgo, fun H3 => Ex H1 H3 ∧ ∃ ws, H3 D = some (.lst ws) ∧ VRs G.K H3 (fun a => B a ∨ a = D) ws (((xs.take (i + 1)).filter t).map g), fun H3 ⟨h1, h2⟩ => ⟨xs.length - (i + 1), by omega, rfl, hlt, h1, h2⟩, fun x H' y => ?_⟩
    obtain ⟨rfl, p, hp, r⟩ := hy x H' y
    rw [List.getElem?_map, List.getElem?_eq_getElem hlt] at hp
    cases hp
    intro s H'' C cl fp
    obtain ⟨gg, hpg, hgq⟩ := hb _ (hX.blk hc s H'' scope C cl fp)
    refine ⟨gg, hpg, hgq (U.add gh) _ _ H' _ x _ _ (E2.wipe _) r hfit fun σ3 E3 hw => ⟨?_, ?_⟩⟩
    · rw [hw _ hT]
      apply List.ext_getElem?
      intro k
      by_cases hk : k ∈ own.map (·.2)
      · rw [wipe_at (n := 0) hk, wipe_at (n := 0) hk, wipe_length]
      · rw [wipe_out hk]
    · intro s H'' C cl fp
      refine htv _ (hX.blk hc s H'' scope C cl fp) _ _ _ _ _ E3 fun H4 e4 => ?_
      by_cases hb' : t xs[i] = true
      · rw [if_pos hb']
        intro s H'' C cl fp
        refine hev hb' _ (hX.blk hc s H'' scope C cl fp) _ _ _ _ _ (E3.mono e4) fun y H5 e5 r5 => ?_
        have hD5 : H5 D = some (.lst ws) := e5.lst (e4.lst hD)
        refine ⟨ws, hD5, ?_, ?_, ws ++ [y], upd_same, ?_⟩
        · refine Evl.sz_lt ?_
          rw [rs.length, List.length_map]
          have := List.length_filter_le t (xs.take i)
          rw [List.length_take] at this
          omega
        · exact ((e2.trans e4).trans e5).mut (.of nD) hD5
        · rw [tk, List.filter_append, List.map_append]
          have e6 : ([xs[i]].filter t).map g = [g xs[i]] := by simp [hb']
          rw [e6]
          exact VRs.mut (.inr rfl) hD5 ((rs.ext (e4.trans e5)).snoc r5)
      · rw [if_neg hb']
        refine ⟨e2.trans e4, ws, e4.lst hD, ?_⟩
        rw [tk, List.filter_append, List.map_append]
        have e6 : ([xs[i]].filter t).map g = [] := by simp [hb']
        rw [e6, List.append_nil]
        exact rs.ext e4
  · refine .inl ⟨hI.2 (Nat.le_of_not_lt hlt), ?_⟩
    have e3 : xs.take i = xs := List.take_of_length_le (Nat.le_of_not_lt hlt)
    rw [e3] at rs
    exact q D ws H2 (e1.trans e2) (VL.fresh_back e1 (.of nD)) hD rs
theorem nv_lcM (own : List (Str × Nat)) (T : Tg) (inj : α → PV) (xs : List α) (t : α → Bool) (g : α → PV) (hc : G.calm = true) (hi : IV G ρ tg iter (xs.map inj)) (hl : xs.length ≤ 100000) (ok : BlkOk G.N G.sc scope own) (hb : BV (G.blk scope) tg T) (hT : ∀ n ∈ T.slots, n ∈ own.map (·.2))
    (hit : ∀ x ∈ xs, T.fits (inj x) ∧ TVs (G.blk scope) (T.bind (inj x) (wipeR ρ (own.map (·.2)))) ifs (t x) ∧ (t x = true → EV (G.blk scope) (T.bind (inj x) (wipeR ρ (own.map (·.2)))) elt (g x)))
    (hs : ∀ env x, foldedSetIterable iter env x = pure x := by intro _ _; rfl) : NV G ρ (.ListComp elt [⟨tg, iter, ifs, 0⟩] scope pos) ((xs.filter t).map g) := fun X hX U B σ H Q E q =>
  of_pe (pe_lc (own := own) (by rw [hX.calm]; exact hc) (by rw [hX.N]; exact hX.nd) pi_w (by rw [hX.N, hX.sc]; exact ok) (g := aG X scope tg) (tt := aT X scope ifs) (te := aE X scope elt)
    (fun s H C cl fp => ⟨fun pins s' σ H' v u Q I r h => pg_w.run pins s' σ H' v u Q I r (h s H C cl fp)⟩) (fun s H C cl fp => ⟨fun pins s' σ H' Q I h => pts_w.run pins s' σ H' Q I (h s H C cl fp)⟩)
    (fun s H C cl fp => ⟨fun pins s' σ H' Q I h => pe_w.run pins s' σ H' Q I (h s H C cl fp)⟩) (hs X.env)) (lc_readM hX hc hi hl hb hT hit E q)
/-- .. without a test -/
theorem nv_lcA (own : List (Str × Nat)) (T : Tg) (inj : α → PV) (xs : List α) (g : α → PV) (hc : G.calm = true) (hi : IV G ρ tg iter (xs.map inj)) (hl : xs.length ≤ 100000) (ok : BlkOk G.N G.sc scope own) (hb : BV (G.blk scope) tg T) (hT : ∀ n ∈ T.slots, n ∈ own.map (·.2))
    (hit : ∀ x ∈ xs, T.fits (inj x) ∧ EV (G.blk scope) (T.bind (inj x) (wipeR ρ (own.map (·.2)))) elt (g x))
    (hs : ∀ env x, foldedSetIterable iter env x = pure x := by intro _ _; rfl) : NV G ρ (.ListComp elt [⟨tg, iter, [], 0⟩] scope pos) (xs.map g) := by
  have h := nv_lcM (G := G) (ρ := ρ) (elt := elt) (tg := tg) (iter := iter) (ifs := []) (scope := scope) (pos := pos) own T inj xs (fun _ => true) g hc hi hl ok hb hT (fun x hx => ⟨(hit x hx).1, tvs_nil, fun _ => (hit x hx).2⟩) hs
  have e : xs.filter (fun _ => true) = xs := List.filter_eq_self.mpr fun _ _ => rfl
  rw [e] at h
  exact h
/-- .. stored by a name -/
theorem sv_lcM (own : List (Str × Nat)) (T : Tg) (inj : α → PV) (xs : List α) (t : α → Bool) (g : α → PV) (hi' : G.N[n]? = some z) (hz : G.sc.names.lookup z = some .local) (hk : G.sc.kind = .function) (hln : (py.line == pos.line) = true) (han : (scope.names.any fun (n, k) => n == z && (k == .local || k == .cell)) = false)
    (hc : G.calm = true) (hi : IV G ρ tg iter (xs.map inj)) (hl : xs.length ≤ 100000) (ok : BlkOk G.N G.sc scope own) (hb : BV (G.blk scope) tg T) (hT : ∀ n ∈ T.slots, n ∈ own.map (·.2))
    (hit : ∀ x ∈ xs, T.fits (inj x) ∧ TVs (G.blk scope) (T.bind (inj x) (wipeR ρ (own.map (·.2)))) ifs (t x) ∧ (t x = true → EV (G.blk scope) (T.bind (inj x) (wipeR ρ (own.map (·.2)))) elt (g x)))
    (hs : ∀ env x, foldedSetIterable iter env x = pure x := by intro _ _; rfl) : SV G ρ (.Assign [.Name z py] (.ListComp elt [⟨tg, iter, ifs, 0⟩] scope pos) spos) (.nx (ρ.set n (.own ((xs.filter t).map g)))) := fun X E hX hA U B σ H D R h =>
  of_ps (ps_setLc (i := n) (own := own) (by rw [hX.calm]; exact hc) (by rw [hX.N]; exact hX.nd) (by rw [hX.N]; exact hi') (by rw [hX.sc]; exact hz) (sw_true (by rw [hX.sc]; exact hk) (by rw [hX.sc]; exact hz) hln han) pi_w (by rw [hX.N, hX.sc]; exact ok) (g := aG X scope tg) (tt := aT X scope ifs) (te := aE X scope elt)
    (fun s H C cl fp => ⟨fun pins s' σ H' v u Q I r h => pg_w.run pins s' σ H' v u Q I r (h s H C cl fp)⟩) (fun s H C cl fp => ⟨fun pins s' σ H' Q I h => pts_w.run pins s' σ H' Q I (h s H C cl fp)⟩)
    (fun s H C cl fp => ⟨fun pins s' σ H' Q I h => pe_w.run pins s' σ H' Q I (h s H C cl fp)⟩) (hs X.env)) (lc_readM hX hc hi hl hb hT hit R fun l vs H1 e1 nl hl rs => h _ _ H1 (R.newOwn nl e1 hl rs))
end
theorem rng_map (lo : Int) (n : Nat) : rng lo n = ((List.range n).map fun (k : Nat) => lo + (k : Int)).map PV.int := by
  unfold rng
  rw [List.map_map]
  rfl
/-- the ints from lo below hi -/
def span (lo hi : Int) : List Int := (List.range (hi - lo).toNat).map fun (k : Nat) => lo + (k : Int)
theorem mem_span {lo hi x : Int} : x ∈ span lo hi ↔ lo ≤ x ∧ x < hi := by
  unfold span
  constructor
  · intro h
    obtain ⟨k, hk, rfl⟩ := List.mem_map.mp h
    have := List.mem_range.mp hk
    omega
  · intro h
    exact List.mem_map.mpr ⟨(x - lo).toNat, List.mem_range.mpr (by omega), by omega⟩
theorem span_len (lo hi : Int) : (span lo hi).length = (hi - lo).toNat := by simp [span]
theorem rng_span2 (lo hi : Int) : rng lo (hi - lo).toNat = (span lo hi).map PV.int := rng_map lo _
theorem rng_span1 (hi : Int) : rng 0 hi.toNat = (span 0 hi).map PV.int := by
  have : hi.toNat = (hi - 0).toNat := by omega
  rw [this]
  exact rng_map 0 _
end VL
namespace VL
open PySem PySem.Spec PyProof.Rows L2
variable [Tb]
section
variable {K : PySem.W.Frag} {B0 B : Bd} {H0 H H1 : Hp} {gs : List (V × PV)} {σ : L2.St} {ρ : List Sl} {D : Addr}
theorem tabs_un {T : List (Addr × Str)} {H : Hp} {p : Addr} {ys : List V} (t : LamX.Tabs T (upd H p (.lst ys))) : LamX.Tabs T H := fun q hq => by
  obtain ⟨ps, h1, h2, h3⟩ := t q hq
  refine ⟨ps, (upd_ne (fun z => by rw [z, upd_same] at h1; cases h1)).symm.trans h1, h2, fun pos cv hc => ?_⟩
  obtain ⟨c, e1, e2⟩ := h3 pos cv hc
  exact ⟨c, e1, (upd_ne (fun z => by rw [z, upd_same] at e2; unfold LamX.CodeO at e2; cases e2)).symm.trans e2⟩
/-- one list more below and above -/
theorem Ex.both {H0 H1 : Hp} {D : Addr} {xs ys : List V} (e : Ex (upd H0 D (.lst xs)) H1) (h : H1 D = some (.lst xs)) : Ex (upd H0 D (.lst ys)) (upd H1 D (.lst ys)) := ⟨fun b o hb n => by
  by_cases z : b = D
  · rw [z, upd_same] at hb ⊢
    exact hb
  · rw [upd_ne z] at hb ⊢
    exact e.st b o ((upd_ne z).trans hb) n, fun t => tabs_mut h (e.tb (by
      have t0 := tabs_un t
      exact fun q hq => by
        obtain ⟨ps, h1, h2, h3⟩ := t q hq
        have nq : q.1 ≠ D := fun z => by rw [z, upd_same] at h1; cases h1
        refine ⟨ps, (upd_ne nq).trans ((upd_ne nq).symm.trans h1), h2, fun pos cv hc => ?_⟩
        obtain ⟨c, e1, e2⟩ := h3 pos cv hc
        have nc : c ≠ D := fun z => by rw [z, upd_same] at e2; unfold LamX.CodeO at e2; cases e2
        exact ⟨c, e1, (upd_ne nc).trans ((upd_ne nc).symm.trans e2)⟩))⟩
theorem Ex.open_ {H0 H1 : Hp} {D : Addr} {ys : List V} (e : Ex H0 H1) (n : H1 D = none) : Ex (upd H0 D (.lst ys)) (upd H1 D (.lst ys)) := ⟨fun b o hb nn => by
  by_cases z : b = D
  · rw [z, upd_same] at hb ⊢
    exact hb
  · rw [upd_ne z] at hb ⊢
    exact e.st b o hb nn, fun t => (Ex.new n).tb (e.tb (tabs_un t))⟩
theorem EnvR.open_ (E : EnvR K ⟨B0, H0, gs⟩ B H1 σ ρ) (n : H1 D = none) : EnvR K ⟨B0, upd H0 D (.lst []), gs⟩ (fun b => B b ∨ b = D) (upd H1 D (.lst [])) σ ρ := by
  have T := E.track (.of n) (Ex.new n) (o := .lst []) upd_same
  have n0 : Fr H0 D := VL.fresh_back E.ex (.of n)
  refine ⟨T.len, T.up, fun b z => ?_, T.trk, E.ex.open_ n, T.tabs, T.gh, T.val, fun i pin xs hp => ?_, T.dis⟩
  · obtain ⟨o, ho, nt⟩ := E.trk0 b z
    exact ⟨o, (upd_ne (fun e => n0.no ⟨o, by rw [← e]; exact ho, nt⟩)).trans ho, nt⟩
  · obtain ⟨a, vs, h1, h2, h3, h4, h5, h6⟩ := T.own i pin xs hp
    obtain ⟨a', vs', k1, k2, k3, k4, _⟩ := E.own i pin xs hp
    rw [h1] at k1
    cases k1
    have ne : a ≠ D := fun e => by rw [e, n] at k2; cases k2
    exact ⟨a, vs, h1, h2, h3, fun o z => h4 o ((upd_ne ne).symm.trans z), h5, h6⟩
theorem EnvR.grows {ws zs : List V} (E : EnvR K ⟨B0, upd H0 D (.lst ws), gs⟩ B H σ ρ) (hD : H D = some (.lst ws)) (hb : B D) : EnvR K ⟨B0, upd H0 D (.lst zs), gs⟩ B (upd H D (.lst zs)) σ ρ := by
  refine ⟨E.len, E.up, fun b z => ?_, fun b z => ?_, E.ex.both hD, tabs_mut hD E.tabs, fun g hg => VRs.mut hb hD (E.gh g hg), fun i p hp => ?_, fun i pin xs hp => ?_, E.dis⟩
  · by_cases e : b = D
    · exact ⟨_, by rw [e]; exact upd_same, fun _ z => by cases z⟩
    · obtain ⟨o, ho, nt⟩ := E.trk0 b z
      exact ⟨o, (upd_ne e).trans ((upd_ne e).symm.trans ho), nt⟩
  · by_cases e : b = D
    · exact ⟨_, by rw [e]; exact upd_same, fun _ z => by cases z⟩
    · obtain ⟨o, ho, nt⟩ := E.trk b z
      exact ⟨o, (upd_ne e).trans ho, nt⟩
  · obtain ⟨v, a, b⟩ := E.val i p hp
    exact ⟨v, a, VRs.mut hb hD b⟩
  · obtain ⟨a, vs, h1, h2, h3, h4, h5, h6⟩ := E.own i pin xs hp
    have ne : a ≠ D := fun e => h4.lst (xs := ws) (by rw [e]; exact upd_same)
    exact ⟨a, vs, h1, (upd_ne ne).trans h2, h3, fun o z => h4 o ((upd_ne ne).trans ((upd_ne ne).symm.trans z)), VRs.mut hb hD h5, h6⟩
end
section
variable {G : Gam} {ρ : List Sl} {elt tg iter tg1 iter1 : Expr} {scope : Scope} {own : List (Str × Nat)} {pos : Pos} {α β : Type}
theorem lc2_read {vs1 : List Nat} {T T1 : Tg} {inj : α → PV} {inj1 : β → PV} {xs : List α} {ys : α → List β} {g : α → β → PV} {X : Cx} (hX : Fits G X) (hc : G.calm = true) (hi : IV G ρ tg iter (xs.map inj)) (hl : (xs.flatMap fun x => (ys x).map (g x)).length ≤ 100000)
    (hb : BV (G.blk scope) tg T) (hT : ∀ n ∈ T.slots, n ∈ own.map (·.2)) (hb1 : BV (G.blk scope) tg1 T1) (hT1 : ∀ n ∈ T1.slots, n ∈ vs1)
    (hit : ∀ x ∈ xs, T.fits (inj x) ∧ IV (G.blk scope) (T.bind (inj x) (wipeR ρ (own.map (·.2)))) tg1 iter1 ((ys x).map inj1))
    (hit1 : ∀ x ∈ xs, ∀ y ∈ ys x, T1.fits (inj1 y) ∧ EV (G.blk scope) (T1.bind (inj1 y) (wipeR (T.bind (inj x) (wipeR ρ (own.map (·.2)))) vs1)) elt (g x y))
    {U : Und} {B : Bd} {σ : L2.St} {H : Hp} {Q : VK} (E : EnvR G.K U B H σ ρ) (q : ∀ l vs H', Ex H H' → Fr H l → H' l = some (.lst vs) → VRs G.K H' (fun a => B a ∨ a = l) vs (xs.flatMap fun x => (ys x).map (g x)) → Q (.ref l) H') :
    tLc2 (wI X tg iter) (aG X scope tg) (aT X scope []) (aI X scope tg1 iter1) (aG X scope tg1) (aT X scope []) (aE X scope elt) (own.map (·.2)) vs1 σ H Q := by
  obtain ⟨wi, hpi, hwi⟩ := hi X hX
  refine ⟨wi, hpi, hwi U B σ H _ E fun J gh H1 e1 hgh hit' => ?_⟩
  intro D nD
  have done_le : ∀ i, i ≤ xs.length → ((xs.take i).flatMap fun x => (ys x).map (g x)).length ≤ (xs.flatMap fun x => (ys x).map (g x)).length := fun i _ => by
    conv => rhs; rw [← List.take_append_drop i xs]
    rw [List.flatMap_append, List.length_append]
    omega
  have E1 : EnvR G.K ⟨U.B0, U.H0, gh :: U.gs⟩ B H1 σ ρ := (E.mono e1).keep hgh
  refine ⟨fun i m H2 => m = xs.length - i ∧ i ≤ xs.length ∧ Ex H1 H2 ∧ ∃ ws, H2 D = some (.lst ws) ∧ VRs G.K H2 (fun a => B a ∨ a = D) ws ((xs.take i).flatMap fun x => (ys x).map (g x)) ∧ EnvR G.K ⟨U.B0, upd U.H0 D (.lst ws), gh :: U.gs⟩ (fun a => B a ∨ a = D) H2 σ ρ,
    ⟨xs.length, rfl, Nat.zero_le _, Ex.new nD, [], upd_same, .nil, E1.open_ nD⟩, ?_⟩
  rintro i m H2 ⟨rfl, hle, e2, ws, hD, rs, E2⟩
  have hI := hit' _ H2 (E2.gh gh List.mem_cons_self) i
  rw [List.length_map] at hI
  by_cases hlt : i < xs.length
  · obtain ⟨hgo, hy⟩ := hI.1 hlt
    have hm := List.getElem_mem hlt
    obtain ⟨hfit, hiv⟩ := hit xs[i] hm
    have tk : (xs.take (i + 1)).flatMap (fun x => (ys x).map (g x)) = ((xs.take i).flatMap fun x => (ys x).map (g x)) ++ (ys xs[i]).map (g xs[i]) := by
      rw [List.take_add_one, List.getElem?_eq_getElem hlt, List.flatMap_append]
      simp
    refine .inr ⟨hgo, fun H3 => Ex H1 H3 ∧ ∃ ws, H3 D = some (.lst ws) ∧ VRs G.K H3 (fun a => B a ∨ a = D) ws ((xs.take (i + 1)).flatMap fun x => (ys x).map (g x)) ∧ EnvR G.K ⟨U.B0, upd U.H0 D (.lst ws), gh :: U.gs⟩ (fun a => B a ∨ a = D) H3 σ ρ, fun H3 ⟨h1, h2⟩ => ⟨xs.length - (i + 1), by omega, rfl, hlt, h1, h2⟩, fun x H' y => ?_⟩
    obtain ⟨rfl, p, hp, r⟩ := hy x H' y
    rw [List.getElem?_map, List.getElem?_eq_getElem hlt] at hp
    cases hp
    intro s H'' C cl fp
    obtain ⟨gg, hpg, hgq⟩ := hb _ (hX.blk hc s H'' scope C cl fp)
    refine ⟨gg, hpg, hgq _ _ _ H' _ x _ _ (E2.wipe _) r hfit fun σ3 E3 hw => ⟨?_, ?_⟩⟩
    · rw [hw _ hT]
      apply List.ext_getElem?
      intro k
      by_cases hk : k ∈ own.map (·.2)
      · rw [wipe_at (n := 0) hk, wipe_at (n := 0) hk, wipe_length]
      · rw [wipe_out hk]
    · intro s H'' C cl fp
      refine tvs_nil (ρ := T.bind (inj xs[i]) (wipeR ρ (own.map (·.2)))) (G := G.blk scope) _ (hX.blk hc s H'' scope C cl fp) _ _ _ _ _ E3 fun H4 e4 => ?_
      rw [if_pos rfl]
      intro s H'' C cl fp
      obtain ⟨wi1, hpi1, hwi1⟩ := hiv _ (hX.blk hc s H'' scope C cl fp)
      refine ⟨wi1, hpi1, hwi1 _ _ σ3 H4 _ (E3.mono e4) fun J1 gh1 H5 e5 hgh1 hit1' => ?_⟩
      have E5 := (E3.mono (e4.trans e5)).keep hgh1
      have eI : Ex H' H5 := e4.trans e5
      refine ⟨fun j k H6 => k = (ys xs[i]).length - j ∧ j ≤ (ys xs[i]).length ∧ Ex H1 H6 ∧ ∃ us, H6 D = some (.lst us) ∧ VRs G.K H6 (fun a => B a ∨ a = D) us (((xs.take i).flatMap fun x => (ys x).map (g x)) ++ ((ys xs[i]).take j).map (g xs[i])) ∧
          EnvR G.K ⟨U.B0, upd U.H0 D (.lst us), gh1 :: gh :: U.gs⟩ (fun a => B a ∨ a = D) H6 σ3 (T.bind (inj xs[i]) (wipeR ρ (List.map Prod.snd own))) ∧ EnvR G.K ⟨U.B0, upd U.H0 D (.lst us), gh :: U.gs⟩ (fun a => B a ∨ a = D) H6 σ ρ,
        ⟨(ys xs[i]).length, rfl, Nat.zero_le _, e2.trans eI, ws, eI.lst hD, by simpa using rs.ext eI, E5, E2.mono eI⟩, ?_⟩
      rintro j k H6 ⟨rfl, hle6, e6, us, hD6, rs6, E6, E6o⟩
      have hI1 := hit1' _ H6 (E6.gh gh1 List.mem_cons_self) j
      rw [List.length_map] at hI1
      by_cases hlt1 : j < (ys xs[i]).length
      · obtain ⟨hgo1, hy1⟩ := hI1.1 hlt1
        have hm1 := List.getElem_mem hlt1
        obtain ⟨hfit1, hev⟩ := hit1 xs[i] hm _ hm1
        have tk1 : ((ys xs[i]).take (j + 1)).map (g xs[i]) = ((ys xs[i]).take j).map (g xs[i]) ++ [g xs[i] (ys xs[i])[j]] := by
          rw [List.take_add_one, List.getElem?_eq_getElem hlt1, List.map_append]
          rfl
        refine .inr ⟨hgo1, fun H7 => Ex H1 H7 ∧ ∃ us, H7 D = some (.lst us) ∧ VRs G.K H7 (fun a => B a ∨ a = D) us (((xs.take i).flatMap fun x => (ys x).map (g x)) ++ ((ys xs[i]).take (j + 1)).map (g xs[i])) ∧
          EnvR G.K ⟨U.B0, upd U.H0 D (.lst us), gh1 :: gh :: U.gs⟩ (fun a => B a ∨ a = D) H7 σ3 (T.bind (inj xs[i]) (wipeR ρ (List.map Prod.snd own))) ∧ EnvR G.K ⟨U.B0, upd U.H0 D (.lst us), gh :: U.gs⟩ (fun a => B a ∨ a = D) H7 σ ρ, fun H7 ⟨h1, h2⟩ => ⟨(ys xs[i]).length - (j + 1), by omega, rfl, hlt1, h1, h2⟩, fun x1 H7 y1 => ?_⟩
        obtain ⟨rfl, p1, hp1, r1⟩ := hy1 x1 H7 y1
        rw [List.getElem?_map, List.getElem?_eq_getElem hlt1] at hp1
        cases hp1
        intro s H'' C cl fp
        obtain ⟨gg1, hpg1, hgq1⟩ := hb1 _ (hX.blk hc s H'' scope C cl fp)
        refine ⟨gg1, hpg1, hgq1 _ _ _ H7 _ x1 _ _ (E6.wipe _) r1 hfit1 fun σ4 E7 hw1 => ⟨?_, ?_⟩⟩
        · rw [hw1 _ hT1]
          apply List.ext_getElem?
          intro k
          by_cases hk : k ∈ vs1
          · rw [wipe_at (n := 0) hk, wipe_at (n := 0) hk, wipe_length]
          · rw [wipe_out hk]
        · intro s H'' C cl fp
          refine tvs_nil (ρ := T1.bind (inj1 (ys xs[i])[j]) (wipeR (T.bind (inj xs[i]) (wipeR ρ (own.map (·.2)))) vs1)) (G := G.blk scope) _ (hX.blk hc s H'' scope C cl fp) _ _ _ _ _ E7 fun H8 e8 => ?_
          rw [if_pos rfl]
          intro s H'' C cl fp
          refine hev _ (hX.blk hc s H'' scope C cl fp) _ _ _ _ _ (E7.mono e8) fun z H9 e9 r9 => ?_
          have eJ : Ex H7 H9 := e8.trans e9
          have hD9 : H9 D = some (.lst us) := eJ.lst hD6
          refine ⟨us, hD9, ?_, ?_, us ++ [z], upd_same, ?_, ?_, ?_⟩
          · refine Evl.sz_lt ?_
            have h1 := rs6.length
            rw [List.length_append, List.length_map, List.length_take] at h1
            have h2 := done_le (i + 1) hlt
            rw [tk, List.length_append, List.length_map] at h2
            omega
          · exact (e6.trans eJ).mut (.of nD) hD9
          · rw [tk1, ← List.append_assoc]
            exact VRs.mut (.inr rfl) hD9 ((rs6.ext eJ).snoc r9)
          · exact (E6.mono eJ).grows hD9 (.inr rfl)
          · exact (E6o.mono eJ).grows hD9 (.inr rfl)
      · refine .inl ⟨hI1.2 (Nat.le_of_not_lt hlt1), e6, us, hD6, ?_, E6o⟩
        rw [List.take_of_length_le (Nat.le_of_not_lt hlt1)] at rs6
        rw [tk]
        exact rs6
  · refine .inl ⟨hI.2 (Nat.le_of_not_lt hlt), ?_⟩
    have e3 : xs.take i = xs := List.take_of_length_le (Nat.le_of_not_lt hlt)
    rw [e3] at rs
    exact q D ws H2 (e1.trans e2) (VL.fresh_back e1 (.of nD)) hD rs
theorem nv_lc2 (own : List (Str × Nat)) (vs1 : List Nat) (T T1 : Tg) (inj : α → PV) (inj1 : β → PV) (xs : List α) (ys : α → List β) (g : α → β → PV) (hc : G.calm = true) (hi : IV G ρ tg iter (xs.map inj)) (hl : (xs.flatMap fun x => (ys x).map (g x)).length ≤ 100000) (ok : BlkOk G.N G.sc scope own)
    (hv : ∀ i ∈ vs1, i ∈ own.map (·.2)) (hb : BV (G.blk scope) tg T) (hT : ∀ n ∈ T.slots, n ∈ own.map (·.2)) (hb1 : BV (G.blk scope) tg1 T1) (hT1 : ∀ n ∈ T1.slots, n ∈ vs1)
    (hit : ∀ x ∈ xs, T.fits (inj x) ∧ IV (G.blk scope) (T.bind (inj x) (wipeR ρ (own.map (·.2)))) tg1 iter1 ((ys x).map inj1))
    (hit1 : ∀ x ∈ xs, ∀ y ∈ ys x, T1.fits (inj1 y) ∧ EV (G.blk scope) (T1.bind (inj1 y) (wipeR (T.bind (inj x) (wipeR ρ (own.map (·.2)))) vs1)) elt (g x y))
    (hs : ∀ env x, foldedSetIterable iter env x = pure x := by intro _ _; rfl) (hs1 : ∀ env x, foldedSetIterable iter1 env x = pure x := by intro _ _; rfl) :
    NV G ρ (.ListComp elt [⟨tg, iter, [], 0⟩, ⟨tg1, iter1, [], 0⟩] scope pos) (xs.flatMap fun x => (ys x).map (g x)) := fun X hX U B σ H Q E q =>
  of_pe (pe_lc2 (own := own) (vs1 := vs1) (by rw [hX.calm]; exact hc) (by rw [hX.N]; exact hX.nd) pi_w (by rw [hX.N, hX.sc]; exact ok) hv (g := aG X scope tg) (tt := aT X scope []) (wi1 := aI X scope tg1 iter1) (g1 := aG X scope tg1) (tt1 := aT X scope []) (te := aE X scope elt)
    (fun s H C cl fp => ⟨fun pins s' σ H' v u Q I r h => pg_w.run pins s' σ H' v u Q I r (h s H C cl fp)⟩) (fun s H C cl fp => ⟨fun pins s' σ H' Q I h => pts_w.run pins s' σ H' Q I (h s H C cl fp)⟩)
    (fun s H C cl fp => ⟨fun pins s' σ H' R I h => pi_w.run pins s' σ H' R I (h s H C cl fp)⟩) (fun s H C cl fp => ⟨fun pins s' σ H' v u Q I r h => pg_w.run pins s' σ H' v u Q I r (h s H C cl fp)⟩)
    (fun s H C cl fp => ⟨fun pins s' σ H' Q I h => pts_w.run pins s' σ H' Q I (h s H C cl fp)⟩) (fun s H C cl fp => ⟨fun pins s' σ H' Q I h => pe_w.run pins s' σ H' Q I (h s H C cl fp)⟩) (hs X.env) hs1)
    (lc2_read hX hc hi hl hb hT hb1 hT1 hit hit1 E q)
end
end VL
namespace VL
open PySem PySem.Spec PyProof.Rows L2
variable [Tb]
open L2H (RoomH HotC FnH)
/-- the making of an error of one's own, where nothing is handled: its context is None -/
theorem pmkN {X : Cx} {CT : CXT} {nm : Str} {e : Expr} {es : List Expr} {ta : TA} {p pos : Pos} {C fI : Addr} {k : Nat} {fd : FuncData}
    {ps : List Str} {sp : Sp} (T : OexC X.K C)
    (iC : PySem.W.findIn X.K (.ref C) "__init__" = some (some (.ref fI)))
    (tI : PySem.W.typeIn X.K (.ref fI) = some (.type "function"))
    (F : FnOk X.prog X.w X.K X.mg X.base CT k fI fd ps sp) (hr : Room (k + 1) X.A) (hb : Binds X.K fd ps [])
    (hx : Passes CT X (fun _ _ _ => False)) (hg : Gl X nm) (hm : X.mg nm = some (.ref C)) (ha : PA X (e :: es) ta)
    (hdb : (nm == ("__debug__" : Str)) = false)
    (he : starEach (e :: es) X.env = (false, eval e X.env) :: starEach es X.env)
    (hpl : (backTo pos (starEach es X.env)).any (·.1) = false) : L2N.PMk X (.Call (.Name nm p) (e :: es) [] pos) (tMkO C sp [] ta) := by
  intro pins s0 σ H0 Q I0 h
  obtain ⟨n1, q1, N1, b1, mro, s1, u1, a1, c1, d1, k0, k1, k2, k3, k5, hC, hM⟩ := T.cls
  refine wpAny_Call_Name_kw (ld_glob I0 hg hm ?_ hdb)
  refine PySem.W.callWith_K (h₀ := X.base) I0.ok.mod.kin T.kC (thn (ha.run pos pins s0 σ H0 _ I0 h) ?_) he hpl
  rintro us ⟨hp, gens, drw, tks, os⟩ ⟨vs, H1, I1, r1, hlen, h1⟩
  refine ⟨I1.kIn, ?_⟩
  -- the new error stands behind the tuple of its arguments
  generalize hE : hp.objs.size + 1 = err
  have fresh : hp.objs.size ≤ err := by omega
  have free1 : H1 err = none := I1.hok.fresh fresh
  have prom := h1 err free1
  rw [List.append_nil] at prom
  have keepB : ∀ b o, hp.get? b = some o → ((hp.push (PySem.W.kdv_tup us)).push (PySem.HandSPX.excO C hp.objs.size)).get? b = some o :=
    fun _ _ q => Heap.get?_push_of_some _ (Heap.get?_push_of_some _ q)
  have there : ((hp.push (PySem.W.kdv_tup us)).push (PySem.HandSPX.excO C hp.objs.size)).get? err = some (PySem.HandSPX.excO C hp.objs.size) := by
    rw [← hE]
    heap_get
  have I2 : Inv X pins σ (upd H1 err (exo err C none))
      ⟨(hp.push (PySem.W.kdv_tup us)).push (PySem.HandSPX.excO C hp.objs.size), gens, drw, tks, os⟩ :=
    I1.laid (t' := tks) (a := err) (o := exo err C none) keepB fresh (exo_ok there)
  have r2 : Vals (V.ref err :: vs) (Value.ref err :: us) := .cons rfl r1
  have lenP : (Value.ref err :: us).length = ps.length := r2.length.symm.trans (F.len _ _ _ _ prom)
  have lenU : us.length ≤ sizeLine := by
    have := Paired.length r1
    rw [sizeLine_eq]
    omega
  have bnd := hb _ (Value.ref err :: us) I2.kIn (by rw [List.append_nil]; exact lenP)
  rw [List.append_nil] at bnd
  have run := F.run _ X.stack _ _ ⟨Value.ref err :: us, []⟩ (Value.ref err :: us) _ _ (fun _ _ _ => False) (hr.make C us []) (I2.env0.make C us []) bnd r2 prom
  rw [← hE] at run
  refine wpAny_call (PySem.HandSPX.call_own PySem.F.excBase_ValueError (fun Y => PySem.HandSPX.refsVE_contains Y mro hM) (I1.kIn _ _ hC)
    (PySem.W.looks_findIn I1.kIn iC) (fun self => PySem.W.bind_fn I1.kIn self tI) lenU (codeAny_mono run ?_))
  intro r s' hq
  cases r with
  | error z =>
    rw [← hE] at I2
    exact hx pins σ _ _ z s' I2 hq
  | ok fl =>
    cases fl with
    | next => exact False.elim hq
    | brk => exact False.elim hq
    | cont => exact False.elim hq
    | ret u =>
      obtain ⟨v, H2, ho, bare, un, ok2, rv, ev, d, fs, ea, ed, hd1, q⟩ := hq
      subst ev
      obtain ⟨h2, g2, d2, t2, o2⟩ := s'
      rw [hE] at ea un q
      obtain ⟨t0, gr, J, kG, ge, at0, nn⟩ := mk_end0 (d2 := d2) (t2 := t2) I1 fresh keepB un ok2 ho bare ea ed hd1
      refine ⟨rv, err, _, _, ⟨gr, g2, d2, t2, o2⟩, _, .ref C, some d, by rw [← hE], J, kG, ge, at0, ⟨rfl, rfl, fun ws hw => ?_⟩, rfl, rfl, nn, rfl, bare, raises_own T.exC T.tyC, q⟩
      cases hw
      rfl
/-- what a two-field __init__ of an error does -/
def spInit (C : Addr) (f1 f2 : Str) : Sp := fun vs H Q _ => ∃ (a : Addr) (x y : V), vs = [.ref a, x, y] ∧ H a = some (exo a C none) ∧
  ∀ d H2, (∀ b o, b ≠ a → H b = some o → H2 b = some o) → H d = none → H2 a = some (exo a C (some d)) → H2 d = some (exd d [(f2, y), (f1, x)]) → Q .non H2
/-- an error class of two fields -/
structure ErrV (P : Program) (w : World) (K : PySem.W.Frag) (mg : Str → Option Value) (base : Heap) (k : Nat) (nm : Str) (C : Addr) (f1 f2 : Str) : Prop where
  mgC : mg nm = some (.ref C)
  T : OexC K C
  fn : ∃ fI fd ps, PySem.W.findIn K (.ref C) "__init__" = some (some (.ref fI)) ∧ PySem.W.typeIn K (.ref fI) = some (.type "function") ∧ FnOk P w K mg base CX0 k fI fd ps (spInit C f1 f2) ∧ Binds K fd ps []
abbrev Gam.Err (G : Gam) (k : Nat) (nm : Str) (C : Addr) (f1 f2 : Str) : Prop := ErrV G.P G.w G.K G.mg G.base k nm C f1 f2
theorem pass00 {X : Cx} : Passes CX0 X (fun _ _ _ => False) := fun _ _ _ _ _ _ _ h => h.elim
section
variable {G : Gam} {ρ : List Sl} {e1 e2 : Expr} {pos p1 p2 : Pos} {p q : PV} {k : Nat} {nm f1 f2 : Str} {C : Addr}
theorem sv_raise (F : G.Err k nm C f1 f2) (hc : G.calm = true) (hk : k + 1 ≤ G.k) (ha : EV G ρ e1 p) (hb : EV G ρ e2 q) (hg : G.sc.names.lookup nm = some .globalImplicit := by first | rfl | decide +kernel) (hd : (nm == ("__debug__" : Str)) = false := by decide)
    (hs : ∀ env, starEach [e1, e2] env = [(false, eval e1 env), (false, eval e2 env)] := by intro _; rfl) (hs2 : ∀ env, starEach [e2] env = [(false, eval e2 env)] := by intro _; rfl) : SV G ρ (.Raise (some (.Call (.Name nm p1) [e1, e2] [] p2)) none pos) (.xc ρ C [f2, f1] [q, p]) := by
  obtain ⟨mgC, T, fI, fd, ps, iC, tI, FI, hbI⟩ := F
  intro X W hX hA U B σ H D R hD
  have st : starEach [e1, e2] X.env = (false, eval e1 X.env) :: starEach [e2] X.env := by rw [hs, hs2]
  have F' : FnOk X.prog X.w X.K X.mg X.base CX0 k fI fd ps (spInit C f1 f2) := by rw [hX.prog, hX.w, hX.K, hX.mg, hX.base]; exact FI
  refine of_ps (L2N.ps_raise (by rw [hX.calm]; exact hc) hA.tk (pmkN (by rw [hX.K]; exact T) (by rw [hX.K]; exact iC) (by rw [hX.K]; exact tI) F' ((hX.room hc).mono hk) (by rw [hX.K]; exact hbI) pass00 (hX.gl hg) (by rw [hX.mg]; exact mgC)
    (pa_cons pe_w (pa_cons pe_w pa_nil (hs2 X.env)) st) hd st (by rw [hs2]; rfl))) ?_
  refine ha X hX _ _ _ _ _ R fun v H1 x1 r1 => hb X hX _ _ _ _ _ (R.mono x1) fun u H2 x2 r2 => ⟨by show 2 ≤ 1000; omega, fun a na => ?_⟩
  refine ⟨a, v, u, rfl, upd_same, fun d H3 keep nd ea ed => ⟨rfl, d, _, ea, ed, ?_, ?_⟩⟩
  · have ne : d ≠ a := fun z => by rw [z, upd_same] at nd; cases nd
    rw [upd_ne ne] at nd
    exact nd
  · have ne : d ≠ a := fun z => by rw [z, upd_same] at nd; cases nd
    rw [upd_ne ne] at nd
    have ex : Ex H2 (upd (del H3 a) d (.xd [(f2, u), (f1, v)])) := Ex.of fun b o hb => by
      have hba : b ≠ a := ne_of_none hb na
      rw [upd_ne (ne_of_none hb nd), del_ne hba]
      exact keep b o hba (by rw [upd_ne hba]; exact hb)
    exact hD d [u, v] B σ _ (R.mono ((x1.trans x2).trans ex)) upd_same rfl (VRs.cons (VR.ext ex r2) (VRs.cons (VR.ext ex (VR.ext x2 r1)) .nil))
end
/-! ### try .. except X as e -/
def Gam.suite (G : Gam) (a C d : Addr) : Gam := { G with calm := false, ex := fun X => ∃ (X0 : Cx) (oe : Obj) (pn : List (Addr × Obj)), X = X0.suite a ((a, oe) :: pn) ∧ L2N.Zn (.ref C) (some d) oe ∧ ∃ vs, oe.data = .fields vs }
def wTry (X : Cx) (body : List Stmt) (W : WX) : TS := fun D σ H => ∀ (pn : List (Addr × Obj)) (xe : Value → Shared → Prop), L2N.Takes (X.tr pn xe) W → PassesOwn (model X.prog X.w) X.A X.env xe → wB (X.tr pn xe) body D σ H
def wSuite (X : Cx) (sts : List Stmt) (a : Addr) (cls : Value) (d : Option Addr) : TS := fun D σ H => ∀ (oe : Obj) (pn : List (Addr × Obj)), L2N.Zn cls d oe → (∃ vs, oe.data = .fields vs) → wB (X.suite a ((a, oe) :: pn)) sts D σ H
section
variable {G : Gam} {ρ ρ1 : List Sl} {pos np pos' : Pos} {body suite : List Stmt} {b0 : Stmt} {x z : Str} {i : Nat} {out : Out} {C D0 : Addr} {ns : List Str} {xs : List PV} {r : PV}
theorem Fits.tr {X : Cx} (hX : Fits G X) (hc : G.calm = true) (hex : ∀ Y, G.ex Y) (pn : List (Addr × Obj)) (xe : Value → Shared → Prop) : Fits G (X.tr pn xe) :=
  ⟨hX.prog, hX.w, hX.K, hX.mg, hX.base, hX.N, hX.sc, hX.fn, hX.calm, hX.nd, hX.gd, hX.roomH, hX.room, (fun z => by rw [hc] at z; cases z), hex _⟩
theorem sv_try {o1 : Out} (hc : G.calm = true) (hex : ∀ Y, G.ex Y) (hi : G.N[i]? = some z) (hz : G.sc.names.lookup z = some .local) (hx : G.mg x = some (.ref D0)) (hg : G.sc.names.lookup x = some .globalImplicit) (hxd : (x == ("__debug__" : Str)) = false)
    (hb : SS G ρ body o1)
    (h : ∀ (W : WX) (X : Cx) (U : Und) (D : Ends), Fits G X → Air X W → OutOk G.K U D W out →
      OutOk G.K U D (wAs G.K (.ref D0) i (fun a cls d => wSuite X (b0 :: suite) a cls d) W D) o1) : SV G ρ (.Try body [.ExceptHandler (some (.Name x np)) (some z) (b0 :: suite) pos'] [] [] pos) out := by
  intro X W hX hA U B σ H D R hD
  refine of_ps (L2N.ps_try_as (i := i) (c := .ref D0) (tb := wTry X body) (ts := fun a cls d => wSuite X (b0 :: suite) a cls d) hA.stk hA.fr (by rw [hX.N]; exact hX.nd) (by rw [hX.N]; exact hi) (by show X.env.scope.names.lookup z = _; rw [hX.sc]; exact hz)
    ⟨hX.gl hg, hxd, .inl (by rw [hX.mg]; exact hx)⟩ hA.tk (fun W pn xe tk po => ⟨fun pins s σ H D I q => pss_w.run pins s σ H D I (q pn xe tk po)⟩) (fun a oe cls d pn hzn hvs => ⟨fun pins s σ H D I q => pss_w.run pins s σ H D I (q oe pn hzn hvs)⟩)) ?_
  intro pn xe tk po
  have key := h W X U D hX hA hD
  rw [← hX.K] at key
  have key' : OutOk G.K U D (wAs X.K (.ref D0) i (fun a cls d => wSuite X (b0 :: suite) a cls d) W D) o1 := by
    rw [hX.K] at key ⊢
    exact key
  exact hb _ _ (hX.tr hc hex pn xe) ⟨tk, po, hA.stk, hA.fr⟩ _ _ _ _ _ R key'
/-- nothing is raised -/
theorem sv_try_rt (hc : G.calm = true) (hex : ∀ Y, G.ex Y) (hi : G.N[i]? = some z) (hz : G.sc.names.lookup z = some .local) (hx : G.mg x = some (.ref D0)) (hg : G.sc.names.lookup x = some .globalImplicit) (hxd : (x == ("__debug__" : Str)) = false) (hb : SS G ρ body (.rt r)) :
    SV G ρ (.Try body [.ExceptHandler (some (.Name x np)) (some z) (b0 :: suite) pos'] [] [] pos) (.rt r) := sv_try hc hex hi hz hx hg hxd hb fun W X U D hX _ hD => hD
theorem sv_try_nx (hc : G.calm = true) (hex : ∀ Y, G.ex Y) (hi : G.N[i]? = some z) (hz : G.sc.names.lookup z = some .local) (hx : G.mg x = some (.ref D0)) (hg : G.sc.names.lookup x = some .globalImplicit) (hxd : (x == ("__debug__" : Str)) = false) (hb : SS G ρ body (.nx ρ1)) :
    SV G ρ (.Try body [.ExceptHandler (some (.Name x np)) (some z) (b0 :: suite) pos'] [] [] pos) (.nx ρ1) := sv_try hc hex hi hz hx hg hxd hb fun W X U D hX _ hD => hD
theorem suite_fits {X : Cx} (hX : Fits G X) {a d : Addr} {oe : Obj} {pn : List (Addr × Obj)} (hzn : L2N.Zn (.ref C) (some d) oe) (hvs : ∃ vs, oe.data = .fields vs) : Fits (G.suite a C d) (X.suite a ((a, oe) :: pn)) :=
  ⟨hX.prog, hX.w, hX.K, hX.mg, hX.base, hX.N, hX.sc, hX.fn, rfl, hX.nd, hX.gd, ⟨hX.roomH.dp, hX.roomH.un⟩, (fun z => by cases z), (fun _ => ⟨(a, oe), ⟨rfl, let ⟨vs, hv⟩ := hvs; ⟨vs, hv, hzn.2.2 vs hv⟩⟩, List.mem_cons_self⟩), X, oe, pn, rfl, hzn, hvs⟩
/-- raised and caught, the suite returns -/
theorem sv_try_xc (hc : G.calm = true) (hex : ∀ Y, G.ex Y) (hi : G.N[i]? = some z) (hz : G.sc.names.lookup z = some .local) (hx : G.mg x = some (.ref D0)) (hg : G.sc.names.lookup x = some .globalImplicit) (hxd : (x == ("__debug__" : Str)) = false)
    (hb : SS G ρ body (.xc ρ1 C ns xs)) (hm : PySem.W.exmOne G.K (.ref C) (.ref D0) = some true) (hsu : ∀ a d, SS (G.suite a C d) (ρ1.set i (.val (.exc a C d ns xs))) (b0 :: suite) (.rt r)) :
    SV G ρ (.Try body [.ExceptHandler (some (.Name x np)) (some z) (b0 :: suite) pos'] [] [] pos) (.rt r) := sv_try hc hex hi hz hx hg hxd hb fun W X U D hX hA hD => by
  intro d ws B σ H R h1 h2 h3
  refine ⟨true, hm, fun _ a na oe pn hzn hvs => ?_, fun z => by cases z⟩
  refine hsu a d _ (fun _ _ _ _ => False) (suite_fits hX hzn hvs) ⟨fun u s' q => ?_, PassesOwn.never, hA.stk, hA.fr⟩ U B _ H _ (R.set (v := .ref a) (.exc h1 h2 h3 .nil)) hD
  obtain ⟨_, _, _, _, _, _, _, _, _, _, _, _, _, _, _, _, zz⟩ := q
  exact zz.elim
end
/-! ### within the suite: the error's fields, its class -/
section
variable {G : Gam} {ρ : List Sl} {pos pos1 p1 p2 : Pos} {a C d : Addr} {ns : List Str} {xs : List PV} {p : PV} {i j : Nat} {z f : Str}
theorem ev_field (T : XfC G.K C) (hno : PySem.W.findIn G.K (.ref C) f = some none) (hN : G.N[i]? = some z) (hv : Vis G.sc z) (h : ρ[i]? = some (.val (.exc a C d ns xs))) (hl : ∀ ws : List V, ws.length = ns.length → (ns.zip ws).lookup f = ws[j]?) (hp : xs[j]? = some p) (hj : j < ns.length)
    (hd : (z == ("__debug__" : Str)) = false := by decide) (hcd : (z == ("__classdict__" : Str)) = false := by decide) (hb : ∀ env, attributeBase (.Name z p1) f env (eval (.Name z p1) env) = eval (.Name z p1) env := by intro _; rfl) :
    EV (G.suite a C d) ρ (.Attribute (.Name z p1) f pos) p := by
  intro X hX U B σ H Q E q
  obtain ⟨X0, oe, pn, rfl, hzn, hvs⟩ := hX.ex
  obtain ⟨v, e1, r⟩ := E.val i _ h
  obtain ⟨rfl, ws, hd1, hl1, rs⟩ := vr_exc r
  obtain ⟨u, hu, ru⟩ := rs.get hp
  refine of_pe (pe_xf (by rw [hX.K]; exact T) (by rw [hX.K]; exact hno) hzn.zc hvs (pe_var (i := i) (by rw [hX.N]; exact hN) (by rw [hX.sc]; exact hv) hd hcd) (hb _)) ?_
  exact ⟨_, e1, rfl, rfl, d, _, u, rfl, hd1, (hl ws hl1).trans hu, q u H (Ex.refl H) ru⟩
end
end VL
namespace VLW
open PySem PySem.Spec PySem.Calls PyProof.Rows PySem.W
section
variable {prog : Program} {w : World} {A : Around} {E : Value → Shared → Prop} {K : Frag} {x D : Addr} {ox : Obj} {od : Option Obj}
/-- __class__ of an error, with or without a dict of its own -/
theorem class_of_error
    (g1 : findIn K (.ref D) "__getattribute__" = some (some (.builtin "BaseException.__getattribute__")))
    (g2 : findIn K (.ref D) "__getattr__" = some none) (g3 : subIn K (.ref D) (.type "BaseException") = some true) (g4 : hasDictIn K D = true)
    (g5 : findIn K (.ref D) "__class__" = some (some (.builtin "object.__class__")))
    (g6 : specialIn K (.builtin "object.__class__") "__get__" = some (some (.builtin "getset_descriptor.__get__")))
    (g7 : takesIn K (.builtin "object.__class__") = some true) (g8 : mroIn K D (.type "object") = some true)
    {s : Shared} {Q : Option Value → Shared → Prop} (KI : K.In s.heap) (J : InstAt s.heap x ox D od) (q : Q (some (.ref D)) { s with toks := s.toks + 1 }) :
    wpAny (model prog w) A (getAttr? (.ref x) "__class__") Q E s := by
  have cls : (clsIn K D).isSome = true := by
    obtain ⟨cd, e, _⟩ := any_some g4
    rw [e]
    rfl
  have found : findObj K D od "__class__" = some (.bind (.builtin "getset_descriptor.__get__") (.builtin "object.__class__")) := by
    obtain ⟨cd, e⟩ := Option.isSome_iff_exists.mp cls
    unfold findObj
    rw [e, Option.bind_some, g5, Option.bind_some]
    simp [g6, g7]
  obtain ⟨hp, gs, dr, tk, os⟩ := s
  have a0 := J.type (M := model prog w)
  have a1 := looks_findIn (M := model prog w) KI g1
  have a2 := looks_findIn (M := model prog w) KI g2
  have a3 := looks_find (M := model prog w) KI J found
  have base : Looks (model prog w) hp (isInstance (.ref x) (.type "BaseException")) true := a0.andThen (looks_subIn KI g3)
  have n2 : (Value.builtin "BaseException.__getattribute__" == Value.builtin "object.__getattribute__") = false := by decide +kernel
  unfold getAttr? getAttrBy? getAttrBy
  refine wpAny_bind (wpAny_mkText (wpAny_bind (wpAny_attempt (wpAny_holding (wpAny_bind (a0.at (wpAny_bind (a1.at ?_))))))))
  show wpAny _ _ (if (onTheHeap (Value.ref D) && Value.builtin "BaseException.__getattribute__" == Value.builtin "object.__getattribute__") = true then _ else _) _ _ _
  rw [show (onTheHeap (Value.ref D) && Value.builtin "BaseException.__getattribute__" == Value.builtin "object.__getattribute__") = false from by rw [n2]; rfl, if_neg Bool.false_ne_true]
  unfold getAttrByItsOwn hookBefore
  refine wpAny_bind ?_
  rw [if_pos (show onTheHeap (Value.ref D) = true from rfl)]
  refine a2.at (wpAny_bind (wpAny_attempt (wpAny_holding ?_)))
  unfold callGetattribute
  rw [show (false && onTheHeap (Value.builtin "BaseException.__getattribute__")) = false from rfl, if_neg Bool.false_ne_true]
  unfold boundAndCalled
  rw [PySem.F.excAttr_ValueError.ga.bind (.ref x)]
  refine wpAny_bind (wpAny_pure ?_)
  show wpAny _ _ (call (.builtin "BaseException.__getattribute__") [.ref x, .str "__class__" tk]) _ _ _
  refine wpAny_call (codeAny_call_builtin PySem.F.excAttr_ValueError.ga.plain PySem.F.entry_bexc_ga
    (@check_slot (model prog w) _ _ ⟨hp, gs, dr, tk + 1, os⟩ "BaseException.__getattribute__" "BaseException" "__getattribute__" (.ref x)
      [.str "__class__" tk] [] _ (by decide +kernel) (by decide +kernel) base (PySem.F.args_bexc_ga (.ref x) (.str "__class__" tk)) ?_))
  unfold Builtin.«object.__getattribute__»
  refine wpAny_bind (wpAny_of_eq (a := ((Value.ref x : Value), [Value.str "__class__" tk])) (by first | rfl | (simp only [slotArgs]; rfl)) ?_)
  refine wpAny_bind (wpAny_pure (wpAny_bind (a0.at (wpAny_bind (a3.at ?_)))))
  show wpAny _ _ (holding [Value.builtin "object.__class__"] (call (.builtin "getset_descriptor.__get__") [.builtin "object.__class__", .ref x, .ref D]) >>= ret) _ _ _
  refine wpAny_bind (wpAny_holding (wpAny_call (class_get (s := ⟨hp, gs, dr, tk + 1, os⟩) (ox := ox) (od := od) KI J g8 (wpAny_pure ?_))))
  show wpAny _ _ (handedOut (.ref D)) _ _ _
  rw [handedOut_of (v := .ref D) rfl]
  first
    | exact wpAny_pure (wpAny_pure q)
    | exact wpAny_pure q
    | exact wpAny_pure (wpAny_bind (wpAny_pure (wpAny_pure q)))
/-- what isinstance needs of such an error -/
theorem kit_error (od : Option Obj)
    (g1 : findIn K (.ref D) "__getattribute__" = some (some (.builtin "BaseException.__getattribute__")))
    (g2 : findIn K (.ref D) "__getattr__" = some none) (g3 : subIn K (.ref D) (.type "BaseException") = some true) (g4 : hasDictIn K D = true)
    (g5 : findIn K (.ref D) "__class__" = some (some (.builtin "object.__class__")))
    (g6 : specialIn K (.builtin "object.__class__") "__get__" = some (some (.builtin "getset_descriptor.__get__")))
    (g7 : takesIn K (.builtin "object.__class__") = some true) (g8 : mroIn K D (.type "object") = some true) :
    KitX K (.ref x) (.ref D) (fun h => InstAt h x ox D od) := by
  obtain ⟨cd, e, _⟩ := any_some g4
  unfold clsIn at e
  refine ⟨fun _ _ _ J => J.type, fun _ _ KI _ => ?_, fun h tp dd its n sl KI at1 => ?_, fun KI J q => class_of_error g1 g2 g3 g4 g5 g6 g7 g8 KI J q⟩
  · split at e
    · rename_i c' d' cd' sl' ho
      intro A' Q' E' s' k q
      unfold isType loadHead
      exact wpAny_bind (wpAny_loadPart (k _ _ (KI _ _ ho)) (wpAny_pure q))
    · cases e
  · refine Bool.eq_false_iff.mpr fun z => ?_
    obtain rfl : D = tp := Value.ref.inj (beq_iff_eq.mp z)
    split at e
    · rename_i c' d' cd' sl' ho
      cases (KI _ _ ho).symm.trans at1
    · cases e
end
end VLW
namespace VL
open PySem PySem.Spec PyProof.Rows L2
variable [Tb]
def rIsX (K : PySem.W.Frag) (D a d : Addr) : List V → Hp → VK → Prop := fun xs H Q => ∃ (C : Addr) (b : Bool) (fs : List (Str × V)), xs = [.ref a, .ref C] ∧ H d = some (.xd fs) ∧ PySem.W.kitOne K (.ref D) (.ref C) = some b ∧ Q (.bl b) H
theorem call_isX {X : Cx} {a D d : Addr} {oe : Obj} {pn : List (Addr × Obj)} (C : ExcC X.K D) (hz : Zc (.ref D) (some d) oe) (hf : ∃ vs, oe.data = .fields vs) : CallR (X.suite a ((a, oe) :: pn)) (.builtin "isinstance") (rIsX X.K D a d) := by
  intro pins s σ H xs us Q I r h
  obtain ⟨c, b, fs, rfl, hd, e, q⟩ := h
  obtain ⟨u1, u2, rfl, ra, rc⟩ := vals2 r
  obtain rfl : u1 = Value.ref a := ra
  obtain rfl : u2 = Value.ref c := rc
  obtain ⟨at1, _⟩ := I.pin (a, oe) (List.mem_append_left _ List.mem_cons_self)
  obtain ⟨vs, hv⟩ := hf
  have hx : ObjOk X.prog X.w H s.heap d (.xd fs) := I.hok d _ hd
  obtain ⟨mA, hns, _⟩ := hx
  obtain ⟨o2, ho, _⟩ := lookIn_ns hns
  have J : PySem.W.InstAt s.heap a oe D (some o2) := ⟨at1, hz.1, by unfold PySem.W.notCls; rw [hv] <;> rfl, by rw [hz.2]; exact ho⟩
  exact PySem.W.kia_one (VLW.kit_error (some o2) C.hg C.hk C.hs C.hd C.ha C.hn C.ht C.hm) I.kIn J e (fun z => nomatch z) fun tk => ⟨.bl b, H, I.kept (t' := tk) fun _ _ z => z, rfl, q⟩
section
variable {G : Gam} {ρ : List Sl} {pos p1 p2 p3 : Pos} {a C d D0 : Addr} {ns : List Str} {xs : List PV} {i : Nat} {z T : Str} {b : Bool}
theorem ev_isErr (CC : ExcC G.K C) (hk : PySem.W.kitOne G.K (.ref C) (.ref D0) = some b) (hm : G.mg "isinstance" = none) (hT : G.mg T = some (.ref D0)) (hN : G.N[i]? = some z) (hv : Vis G.sc z) (h : ρ[i]? = some (.val (.exc a C d ns xs)))
    (hg : G.sc.names.lookup ("isinstance" : Str) = some .globalImplicit := by first | rfl | decide +kernel) (hgT : G.sc.names.lookup T = some .globalImplicit := by first | rfl | decide +kernel) (hTd : (T == ("__debug__" : Str)) = false := by decide)
    (hd : (z == ("__debug__" : Str)) = false := by decide) (hcd : (z == ("__classdict__" : Str)) = false := by decide) :
    EV (G.suite a C d) ρ (.Call (.Name "isinstance" p1) [.Name z p2, .Name T p3] [] pos) (.bl b) := by
  intro X hX U B σ H Q E q
  obtain ⟨X0, oe, pn, rfl, hzn, hvs⟩ := hX.ex
  obtain ⟨v, e1, r⟩ := E.val i _ h
  obtain ⟨rfl, ws, hd1, hl1, rs⟩ := vr_exc r
  refine of_pe (pe_callB (call_isX (by rw [hX.K]; exact CC) hzn.zc hvs) (hX.gl hg) (hX.nn hm) (by decide +kernel) (pa_cons (pe_var (i := i) (by rw [hX.N]; exact hN) (by rw [hX.sc]; exact hv) hd hcd) (pa_cons (pe_glob (v := .ref D0) (hX.gl hgT) (by rw [hX.mg]; exact hT) rfl hTd) pa_nil))) ?_
  exact ⟨_, e1, D0, b, _, rfl, hd1, by rw [hX.K]; exact hk, q _ H (Ex.refl H) .b⟩
end
end VL
namespace VL
open PySem PySem.Spec PyProof.Rows L2
variable [Tb]
open L2H (RoomH HotC FnH)
/-! ### len(set(ints)) -/
def distinct (ns : List Int) : List Int := ns.foldl (fun σ k => if σ.any (· == k) then σ else σ ++ [k]) []
theorem firstMet_distinct (ns : List Int) : PyProof.Rows.firstMet (fun i => ns.getD i 0) ns.length = distinct ns := by
  unfold PyProof.Rows.firstMet distinct
  have e : (List.range ns.length).map (fun i => ns.getD i 0) = ns := by
    apply List.ext_getElem
    · simp
    · intro i h1 h2
      simp [h2]
  rw [e]
  rfl
section
variable {X : Cx}
def tLenSetD (K : PySem.W.Frag) (ta : TE) : TE := fun σ H Q => ta σ H fun x H1 => ∃ (l : Addr) (ns : List Int), x = V.ref l ∧ SqL K H1 l (ns.map V.int) ∧ ns.length < 64 ∧ Q (.int (distinct ns).length) H1
theorem pe_lenSetD {a : Expr} {ta : TE} {p p2 q pos : Pos} (hc : X.calm = true) (g1 : Gl X "len") (m1 : X.mg "len" = none) (g2 : Gl X "set") (m2 : X.mg "set" = none)
    (ha : PE X a ta) (na : starEach [a] X.env = (false, eval a X.env) :: starEach [] X.env) :
    PE X (.Call (.Name "len" p) [.Call (.Name "set" p2) [a] [] q] [] pos) (tLenSetD X.K ta) := ⟨fun pins s σ H Q I h => by
  refine Call_ (ld_blt I g1 m1 PySem.boot_len (PyProof.Rows.callWith_builtin1 (PyProof.Rows.args_cons ?_ rfl) rfl rfl))
  refine Call_ (ld_blt I g2 m2 PyProof.Rows.boot_set (PyProof.Rows.callWith_type1 (PyProof.Rows.args_cons (thn (ha.run pins s σ H _ I h) ?_) na) na rfl))
  rintro v s1 ⟨x, H1, I1, r1, l, ns, rfl, hq, hlt, q1⟩
  refine PyProof.Rows.args_nil ?_
  cases r1
  obtain ⟨its, r, pl, hz⟩ := I1.list hq
  have size : its.toArray.size = ns.length := by rw [List.size_toArray, ← r.length, List.length_map]
  refine call_set_list (I1.ok.hd hc) pl.isList (ns := ns) (by simpa using r.ints) (by unfold scanBound; omega) fun h' tk made kept => ?_
  rw [size, firstMet_distinct] at made
  refine PyProof.Rows.args_nil ?_
  obtain ⟨o, es, ep, t, ho, hex, hd, _, _, _, hf, hn⟩ := made
  have small : (distinct ns).length < 64 := by
    rw [← firstMet_distinct]
    exact Nat.lt_of_le_of_lt (PyProof.Rows.firstMet_length_le _ _) hlt
  have I2 : Inv X pins σ H1 { s1 with heap := h', toks := tk } := I1.kept fun b o e => kept b o (Heap.lt_size e) e
  exact call_len_set ho hex hd hf (by rw [hn] <;> omega) ⟨.int (distinct ns).length, H1, I2.tok _, ⟨_, by rw [hn]⟩, q1⟩⟩
end
section
variable {G : Gam} {ρ : List Sl} {a b e : Expr} {pos p1 p2 p3 : Pos}
theorem ev_lenSet {ns : List Int} (ha : LV G ρ a (ns.map PV.int)) (hlt : ns.length < 64) (hc : G.calm = true) (m1 : G.mg "len" = none) (m2 : G.mg "set" = none) (g1 : G.sc.names.lookup ("len" : Str) = some .globalImplicit := by first | rfl | decide +kernel) (g2 : G.sc.names.lookup ("set" : Str) = some .globalImplicit := by first | rfl | decide +kernel)
    (hs : ∀ env, starEach [a] env = (false, eval a env) :: starEach [] env := by intro _; rfl) : EV G ρ (.Call (.Name "len" p1) [.Call (.Name "set" p2) [a] [] p3] [] pos) (.int (distinct ns).length) := by
  intro X hX U B σ H Q E q
  refine of_pe (pe_lenSetD (by rw [hX.calm]; exact hc) (hX.gl g1) (hX.nn m1) (hX.gl g2) (hX.nn m2) pe_w (hs X.env)) ?_
  refine ha X hX _ _ _ _ _ E fun l vs H1 e1 hl rs => ?_
  have ev := rs.intsV
  subst ev
  exact ⟨l, ns, rfl, by rw [hX.K]; exact hl, hlt, q _ _ e1 .i⟩
end
/-! ### pairs of ints, in and not in -/
def pr (z : Int × Int) : PV := .tup [.int z.1, .int z.2]
def prDat (z : Int × Int) : PyData := .tuple [.int z.1, .int z.2]
theorem prDat_lay (z : Int × Int) : (prDat z).canLay0 = true := by simp [prDat, PyData.canLay0, PyData.canLayAll0]
theorem prDat_depth (z : Int × Int) : (prDat z).depth = 1 := by simp [prDat, PyData.depth, PyData.depthAll]
theorem prDats_lay : ∀ zs : List (Int × Int), PyData.canLayAll0 (zs.map prDat) = true
  | [] => by simp [PyData.canLayAll0]
  | z :: zs => by simp [PyData.canLayAll0, prDat_lay z, prDats_lay zs]
theorem prDats_depth : ∀ zs : List (Int × Int), PyData.depthAll (zs.map prDat) ≤ 1
  | [] => by simp [PyData.depthAll]
  | z :: zs => by
    have h1 := prDats_depth zs
    have h2 := prDat_depth z
    simp only [List.map_cons, PyData.depthAll]
    omega
theorem prDat_shaped (z : Int × Int) : SeqAt.shaped (prDat z) = true := by
  unfold SeqAt.shaped
  rw [prDat_lay, prDat_depth]
  rfl
theorem prDats_shaped (zs : List (Int × Int)) : SeqAt.shaped (.list (zs.map prDat)) = true := by
  have h1 := prDats_depth zs
  unfold SeqAt.shaped
  rw [Bool.and_eq_true]
  refine ⟨by simp only [PyData.canLay0]; exact prDats_lay zs, decide_eq_true ?_⟩
  simp only [PyData.depth]
  omega
theorem prDat_eqv (z w : Int × Int) : PyData.eqv (prDat z) (prDat w) = decide (z = w) := by
  obtain ⟨x, y⟩ := z
  obtain ⟨x', y'⟩ := w
  simp only [prDat, PyData.eqv, PyData.eqvAll]
  by_cases h1 : x = x'
  · by_cases h2 : y = y'
    · subst h1; subst h2; simp
    · simp [h2]
  · simp [h1]
theorem dp_pr {K : PySem.W.Frag} {H : Hp} {B : Bd} {v : V} {z : Int × Int} (h : VR K H B v (pr z)) : Dp K H v (prDat z) := by
  obtain ⟨a, ws, rfl, hT, rs⟩ := vr_tup h
  have e := VRs.intsV (bs := [z.1, z.2]) rs
  subst e
  exact .tup hT (.cons (.int _) (.cons (.int _) .nil))
theorem dps_pr {K : PySem.W.Frag} {H : Hp} {B : Bd} : ∀ {vs : List V} {zs : List (Int × Int)}, VRs K H B vs (zs.map pr) → DpAll K H vs (zs.map prDat)
  | [], [], _ => .nil
  | [], _ :: _, h => nomatch h
  | _ :: _, [], h => nomatch h
  | _ :: _, _ :: _, h => .cons (dp_pr h.head) (dps_pr h.tail)
section
variable {G : Gam} {ρ : List Sl} {a b e : Expr} {pos p1 p2 p3 : Pos} {z : Int × Int} {zs : List (Int × Int)}
theorem any_prDat (z : Int × Int) (zs : List (Int × Int)) : ((zs.map prDat).any fun d => PyData.eqv d (prDat z)) = decide (z ∈ zs) := by
  rw [List.any_map]
  induction zs with
  | nil => simp
  | cons w ws ih =>
    simp only [List.any_cons, Function.comp, prDat_eqv, List.mem_cons] at ih ⊢
    rw [ih]
    by_cases h : w = z
    · subst h; simp
    · have h' : ¬ z = w := fun q => h q.symm
      simp [h, h']
theorem cv_notinP (ha : EV G ρ a (pr z)) (hb : LV G ρ b (zs.map pr)) (hm : behindInMarks .NotIn b = false := by first | rfl | exact nobehind _ (by decide) (by decide)) : CV G ρ (.Compare a [.NotIn] [b] pos) (!decide (z ∈ zs)) := by
  have key : ∀ X, Fits G X → ∀ (U : Und) (B : Bd) (σ : L2.St) (H : Hp) (R : V → Hp → Prop), EnvR G.K U B H σ ρ → (∀ H', Ex H H' → R (.bl (!decide (z ∈ zs))) H') → wE X a σ H fun x H1 => wE X b σ H1 fun y H2 => rNotInD X.K x y H2 R := fun X hX U B σ H R E q =>
    ha X hX _ _ _ _ _ E fun v H1 e1 r1 => hb X hX _ _ _ _ _ (E.mono e1) fun l vs H2 e2 hl rs => by
      rw [hX.K]
      refine ⟨prDat z, zs.map prDat, dp_pr (r1.ext e2), .lst hl (dps_pr rs), prDat_shaped z, prDats_shaped zs, ?_⟩
      rw [any_prDat]
      exact q H2 (e1.trans e2)
  have hu : ∀ X, Fits G X → X.A.units + 65 < cLine := fun X hX => by
    have := hX.roomH.un
    omega
  refine ⟨fun X hX U B σ H Q E q => of_pe (pe_cmpR (op_notInD (hu X hX)) pe_w pe_w hm) (key X hX U B σ H Q E fun H' e => q _ H' e .b), fun X hX U B σ H Q E q => of_pt (pt_cmpR (op_notInD (hu X hX)) pe_w pe_w hm) (key X hX U B σ H _ E fun H' e => ⟨_, rfl, q H' e⟩)⟩
end
/-! ### calls by names of the parameters alone -/
def FnVK (P : Program) (w : World) (K : PySem.W.Frag) (mg : Str → Option Value) (base : Heap) (k : Nat) (x : Str) (ps ks : List Str) (rev : Bool) (R : Rel) : Prop :=
  ∃ f fd, mg x = some (.ref f) ∧ PySem.W.keepIn K (.ref f) = true ∧ FnG P w K mg base (L2N.CX P w) k f fd ps (spOf K ps.length R) ∧
    ∀ (s : Shared) (ws : List Value), K.In s.heap → ws.length = ps.length → BindsTo s fd ⟨[], ks.zip ws⟩ (ps.zip (if rev then ws.reverse else ws))
abbrev Gam.FnK (G : Gam) (k : Nat) (x : Str) (ps ks : List Str) (rev : Bool) (R : Rel) : Prop := FnVK G.P G.w G.K G.mg G.base k x ps ks rev R
def KVs (G : Gam) (ρ : List Sl) (kws : List Keyword) (ps : List PV) : Prop := ∀ X, Fits G X → ∃ t, PK X kws t ∧ ∀ (U : Und) (B : Bd) (σ : L2.St) (H : Hp) (Q : List V → Hp → Prop), EnvR G.K U B H σ ρ → (∀ vs H', Ex H H' → VRs G.K H' B vs ps → Q vs H') → t σ H Q
section
variable {G : Gam} {ρ : List Sl} {e : Expr} {kws : List Keyword} {pos kpos p1 : Pos} {p : PV} {args : List PV} {nm : Option Str}
theorem kv_nil : KVs G ρ [] [] := fun X hX => ⟨_, pk_nil, fun U B σ H Q E q => q _ _ (Ex.refl H) .nil⟩
theorem kv_cons {ps : List PV} (h : EV G ρ e p) (t : KVs G ρ kws ps) : KVs G ρ (⟨nm, e, kpos⟩ :: kws) (p :: ps) := fun X hX => by
  obtain ⟨t', ht, hq⟩ := t X hX
  exact ⟨_, pk_cons pe_w ht, fun U B σ H Q E q => h X hX _ _ _ _ _ E fun v H1 e1 r1 => hq _ _ _ _ _ (E.mono e1) fun vs H2 e2 r2 => q _ _ (e1.trans e2) (VRs.cons (r1.ext e2) r2)⟩
theorem VRs.rev {K : PySem.W.Frag} {H : Hp} {B : Bd} : ∀ {vs : List V} {ps : List PV}, VRs K H B vs ps → VRs K H B vs.reverse ps.reverse
  | [], [], _ => .nil
  | [], _ :: _, h => nomatch h
  | _ :: _, [], h => nomatch h
  | v :: vs, p :: ps, h => by
    rw [List.reverse_cons, List.reverse_cons]
    exact (VRs.rev h.tail).append h.head
theorem ev_callK {k : Nat} {f : Str} {ps ks : List Str} {rev : Bool} {R : Rel} (F : G.FnK k f ps ks rev R) (hc : G.calm = true) (hk : k ≤ G.k) (ha : KVs G ρ kws args) (hR : R (if rev then args.reverse else args) (.ok p)) (hl : args.length = ps.length) (hkl : kws.length = args.length)
    (hall : ∀ env, (backToKw pos (keywordEach kws env)).all (·.1.isSome) = true := by intro _; rfl) (hks : ∀ env, (backToKw pos (keywordEach kws env)).filterMap (·.1) = ks := by intro _; rfl)
    (hpl : ∀ env, ((backTo pos (starEach [] env)).any (·.1) || (backToKw pos (keywordEach kws env)).any (·.1.isNone)) = false := by intro _; rfl)
    (hg : G.sc.names.lookup f = some .globalImplicit := by first | rfl | decide +kernel) (hd : (f == ("__debug__" : Str)) = false := by decide) : EV G ρ (.Call (.Name f p1) [] kws pos) p := by
  obtain ⟨g, fd, hm, hkp, F, hb⟩ := F
  intro X hX U B σ H Q E q
  have F' : FnG X.prog X.w X.K X.mg X.base (L2N.CX X.prog X.w) k g fd ps (spOf G.K ps.length R) := by rw [hX.prog, hX.w, hX.K, hX.mg, hX.base]; exact F
  obtain ⟨t, ht, hq⟩ := ha X hX
  unfold wE
  intro pins s I
  refine wpAny_Call_Name_kw (ld_glob I (hX.gl hg) (by rw [hX.mg]; exact hm) ?_ hd)
  refine PySem.W.callWith_KW0 (h₀ := X.base) I.ok.mod.kin (by rw [hX.K]; exact hkp) (hall X.env) ?_ (hpl X.env)
  refine thn (ht.run pos pins s σ H (fun zs H2 => VRs G.K H2 B zs args ∧ Ex H H2) I (hq U B σ H _ E fun vs H1 e1 rs => ⟨rs, e1⟩)) fun ws s2 ⟨zs, H2, I2, rz, rs, e1⟩ => ⟨I2.kIn, ?_⟩
  rw [hks]
  have lz : zs.length = ps.length := rs.length.trans hl
  have lw : ws.length = ps.length := rz.length.symm.trans lz
  have rz2 : Vals (if rev then zs.reverse else zs) (if rev then ws.reverse else ws) := by
    cases rev with
    | false => exact rz
    | true =>
      have rr : ∀ {a : List V} {b : List Value}, Vals a b → Vals a.reverse b.reverse := fun {a b} h => by
        induction h with
        | nil => exact .nil
        | cons r t ih =>
          rw [List.reverse_cons, List.reverse_cons]
          exact Vals.append ih (.cons r .nil)
      exact rr rz
  have rs2 : VRs G.K H2 B (if rev then zs.reverse else zs) (if rev then args.reverse else args) := by
    cases rev with
    | false => exact rs
    | true => exact rs.rev
  have prom : spOf G.K ps.length R (if rev then zs.reverse else zs) H2 Q (fun _ _ _ => False) := ⟨(E.mono e1).tabs, _, .ok p, B, rs2, (E.mono e1).trk, by cases rev <;> simp [hl], hR, fun v H3 e3 r3 => q v H3 (e1.trans e3) r3⟩
  show wpAny _ _ (call (.ref g) [] (ks.zip ws)) _ _ _
  refine wpAny_call (codeAny_mono (F'.run X.A X.stack s2 H2 ⟨[], ks.zip ws⟩ (if rev then ws.reverse else ws) _ Q (fun _ _ _ => False) ((hX.room hc).mono hk) hX.gd I2.env0 (hb s2 ws (by rw [← hX.K]; exact I2.kIn) lw) rz2 prom) fun r s' hq' => ?_)
  cases r with
  | error z => exact pass0N pins σ H2 s2 z s' I2 hq'
  | ok fl =>
    cases fl with
    | ret u => exact I2.after hq'
    | next => exact False.elim hq'
    | brk => exact False.elim hq'
    | cont => exact False.elim hq'
end
end VL
namespace VL
open PySem PySem.Spec PyProof.Rows L2
variable [Tb]
section
variable {G : Gam} {ρ : List Sl} {pos : Pos} {p : PV} {x : Str}
theorem v (n : Nat) (hN : G.N[n]? = some x := by rfl) (hv : Vis G.sc x := by first | exact .inl rfl | exact .inr (.inl rfl) | exact .inr (.inr rfl)) (h : ρ[n]? = some (.val p) := by rfl) (hd : (x == ("__debug__" : Str)) = false := by decide) (hc : (x == ("__classdict__" : Str)) = false := by decide) : EV G ρ (.Name x pos) p := ev_var hN hv h hd hc
theorem lo {pin : Option Addr} {xs : List PV} (n : Nat) (hN : G.N[n]? = some x := by rfl) (hv : Vis G.sc x := by first | exact .inl rfl | exact .inr (.inl rfl) | exact .inr (.inr rfl)) (h : ρ[n]? = some (.ow pin xs) := by rfl) (hd : (x == ("__debug__" : Str)) = false := by decide) (hc : (x == ("__classdict__" : Str)) = false := by decide) : LV G ρ (.Name x pos) xs := lv_own hN hv h hd hc
end
section
variable {G : Gam} {ρ : List Sl} {elt tg iter tg1 iter1 : Expr} {scope : Scope} {pos spos py : Pos} {α β : Type} {n : Nat} {z : Str}
theorem sv_lc2 (own : List (Str × Nat)) (vs1 : List Nat) (T T1 : Tg) (inj : α → PV) (inj1 : β → PV) (xs : List α) (ys : α → List β) (g : α → β → PV) (hi' : G.N[n]? = some z) (hz : G.sc.names.lookup z = some .local) (hk : G.sc.kind = .function) (hln : (py.line == pos.line) = true)
    (han : (scope.names.any fun (n, k) => n == z && (k == .local || k == .cell)) = false) (hc : G.calm = true) (hi : IV G ρ tg iter (xs.map inj)) (hl : (xs.flatMap fun x => (ys x).map (g x)).length ≤ 100000) (ok : BlkOk G.N G.sc scope own)
    (hv : ∀ i ∈ vs1, i ∈ own.map (·.2)) (hb : BV (G.blk scope) tg T) (hT : ∀ n ∈ T.slots, n ∈ own.map (·.2)) (hb1 : BV (G.blk scope) tg1 T1) (hT1 : ∀ n ∈ T1.slots, n ∈ vs1)
    (hit : ∀ x ∈ xs, T.fits (inj x) ∧ IV (G.blk scope) (T.bind (inj x) (wipeR ρ (own.map (·.2)))) tg1 iter1 ((ys x).map inj1))
    (hit1 : ∀ x ∈ xs, ∀ y ∈ ys x, T1.fits (inj1 y) ∧ EV (G.blk scope) (T1.bind (inj1 y) (wipeR (T.bind (inj x) (wipeR ρ (own.map (·.2)))) vs1)) elt (g x y))
    (hs : ∀ env x, foldedSetIterable iter env x = pure x := by intro _ _; rfl) (hs1 : ∀ env x, foldedSetIterable iter1 env x = pure x := by intro _ _; rfl) :
    SV G ρ (.Assign [.Name z py] (.ListComp elt [⟨tg, iter, [], 0⟩, ⟨tg1, iter1, [], 0⟩] scope pos) spos) (.nx (ρ.set n (.own (xs.flatMap fun x => (ys x).map (g x))))) := fun X E hX hA U B σ H D R h =>
  of_ps (ps_setLc2 (i := n) (own := own) (vs1 := vs1) (by rw [hX.calm]; exact hc) (by rw [hX.N]; exact hX.nd) (by rw [hX.N]; exact hi') (by rw [hX.sc]; exact hz) (sw_true (by rw [hX.sc]; exact hk) (by rw [hX.sc]; exact hz) hln han) pi_w (by rw [hX.N, hX.sc]; exact ok) hv
    (g := aG X scope tg) (tt := aT X scope []) (wi1 := aI X scope tg1 iter1) (g1 := aG X scope tg1) (tt1 := aT X scope []) (te := aE X scope elt)
    (fun s H C cl fp => ⟨fun pins s' σ H' v u Q I r h => pg_w.run pins s' σ H' v u Q I r (h s H C cl fp)⟩) (fun s H C cl fp => ⟨fun pins s' σ H' Q I h => pts_w.run pins s' σ H' Q I (h s H C cl fp)⟩)
    (fun s H C cl fp => ⟨fun pins s' σ H' R I h => pi_w.run pins s' σ H' R I (h s H C cl fp)⟩) (fun s H C cl fp => ⟨fun pins s' σ H' v u Q I r h => pg_w.run pins s' σ H' v u Q I r (h s H C cl fp)⟩)
    (fun s H C cl fp => ⟨fun pins s' σ H' Q I h => pts_w.run pins s' σ H' Q I (h s H C cl fp)⟩) (fun s H C cl fp => ⟨fun pins s' σ H' Q I h => pe_w.run pins s' σ H' Q I (h s H C cl fp)⟩) (hs X.env) hs1)
    (lc2_read hX hc hi hl hb hT hb1 hT1 hit hit1 R fun l vs H1 e1 nl hl rs => h _ _ H1 (R.newOwn nl e1 hl rs))
theorem sv_lcA (own : List (Str × Nat)) (T : Tg) (inj : α → PV) (xs : List α) (g : α → PV) (hi' : G.N[n]? = some z) (hz : G.sc.names.lookup z = some .local) (hk : G.sc.kind = .function) (hln : (py.line == pos.line) = true) (han : (scope.names.any fun (n, k) => n == z && (k == .local || k == .cell)) = false)
    (hc : G.calm = true) (hi : IV G ρ tg iter (xs.map inj)) (hl : xs.length ≤ 100000) (ok : BlkOk G.N G.sc scope own) (hb : BV (G.blk scope) tg T) (hT : ∀ n ∈ T.slots, n ∈ own.map (·.2))
    (hit : ∀ x ∈ xs, T.fits (inj x) ∧ EV (G.blk scope) (T.bind (inj x) (wipeR ρ (own.map (·.2)))) elt (g x))
    (hs : ∀ env x, foldedSetIterable iter env x = pure x := by intro _ _; rfl) : SV G ρ (.Assign [.Name z py] (.ListComp elt [⟨tg, iter, [], 0⟩] scope pos) spos) (.nx (ρ.set n (.own (xs.map g)))) := by
  have h := sv_lcM (spos := spos) own T inj xs (fun _ => true) g hi' hz hk hln han hc hi hl ok hb hT (ifs := []) (fun x hx => ⟨(hit x hx).1, tvs_nil, fun _ => (hit x hx).2⟩) hs
  rw [show xs.filter (fun _ => true) = xs from List.filter_eq_self.mpr fun _ _ => rfl] at h
  exact h
theorem SV.to {st : Stmt} {p q : Out} (h : SV G ρ st p) (z : p = q) : SV G ρ st q := z ▸ h
theorem ex_fdivL {a b : Expr} {C : Addr} {ns : List Str} {xs : List PV} (h : EX G ρ a C ns xs) : EX G ρ (.BinOp a .FloorDiv b pos) C ns xs := fun X hX W tk U B σ H Q E q =>
  of_pe (pe_op op_fdiv pe_w pe_w) (h X hX W tk _ _ _ _ _ E q)
end
def PV.isI : PV → Bool
  | .int _ => true
  | .bl _ => true
  | _ => false
def PV.isB : PV → Bool
  | .bl _ => true
  | _ => false
def PV.isS : PV → Bool
  | .str _ => true
  | _ => false
def PV.isT : PV → Bool
  | .tup _ => true
  | _ => false
def PV.isL : PV → Bool
  | .lst _ => true
  | _ => false
section
variable {p : PV} (h : p.ty ≠ "?")
include h
theorem kit_int : kitB p.ty "int" = some p.isI := by
  cases p with
  | non => exact (by decide +kernel : kitB "NoneType" "int" = some false)
  | bl _ => exact (by decide +kernel : kitB "bool" "int" = some true)
  | int _ => exact (by decide +kernel : kitB "int" "int" = some true)
  | str _ => exact (by decide +kernel : kitB "str" "int" = some false)
  | tup _ => exact (by decide +kernel : kitB "tuple" "int" = some false)
  | lst _ => exact (by decide +kernel : kitB "list" "int" = some false)
  | exc _ _ _ _ _ => exact absurd rfl h
  | rng _ _ => exact absurd rfl h
theorem kit_bool : kitB p.ty "bool" = some p.isB := by
  cases p with
  | non => exact (by decide +kernel : kitB "NoneType" "bool" = some false)
  | bl _ => exact (by decide +kernel : kitB "bool" "bool" = some true)
  | int _ => exact (by decide +kernel : kitB "int" "bool" = some false)
  | str _ => exact (by decide +kernel : kitB "str" "bool" = some false)
  | tup _ => exact (by decide +kernel : kitB "tuple" "bool" = some false)
  | lst _ => exact (by decide +kernel : kitB "list" "bool" = some false)
  | exc _ _ _ _ _ => exact absurd rfl h
  | rng _ _ => exact absurd rfl h
theorem kit_str : kitB p.ty "str" = some p.isS := by
  cases p with
  | non => exact (by decide +kernel : kitB "NoneType" "str" = some false)
  | bl _ => exact (by decide +kernel : kitB "bool" "str" = some false)
  | int _ => exact (by decide +kernel : kitB "int" "str" = some false)
  | str _ => exact (by decide +kernel : kitB "str" "str" = some true)
  | tup _ => exact (by decide +kernel : kitB "tuple" "str" = some false)
  | lst _ => exact (by decide +kernel : kitB "list" "str" = some false)
  | exc _ _ _ _ _ => exact absurd rfl h
  | rng _ _ => exact absurd rfl h
theorem kit_tuple : kitB p.ty "tuple" = some p.isT := by
  cases p with
  | non => exact (by decide +kernel : kitB "NoneType" "tuple" = some false)
  | bl _ => exact (by decide +kernel : kitB "bool" "tuple" = some false)
  | int _ => exact (by decide +kernel : kitB "int" "tuple" = some false)
  | str _ => exact (by decide +kernel : kitB "str" "tuple" = some false)
  | tup _ => exact (by decide +kernel : kitB "tuple" "tuple" = some true)
  | lst _ => exact (by decide +kernel : kitB "list" "tuple" = some false)
  | exc _ _ _ _ _ => exact absurd rfl h
  | rng _ _ => exact absurd rfl h
end
section
variable {G : Gam} {ρ : List Sl} {a b : Expr} {rest : List Expr} {pos : Pos} {y : Bool}
theorem ev_and_f (ha : EV G ρ a (.bl false)) : EV G ρ (.BoolOp .And (a :: b :: rest) pos) (.bl false) := ev_and (x := false) (y := false) ha fun z => by cases z
theorem ev_and_t (ha : EV G ρ a (.bl true)) (hb : EV G ρ (.BoolOp .And (b :: rest) pos) (.bl y)) : EV G ρ (.BoolOp .And (a :: b :: rest) pos) (.bl y) := ev_and (x := true) (y := y) ha fun _ => hb
theorem ev_or_t (ha : EV G ρ a (.bl true)) : EV G ρ (.BoolOp .Or (a :: b :: rest) pos) (.bl true) := ev_or (x := true) (y := true) ha fun z => by cases z
theorem ev_or_f (ha : EV G ρ a (.bl false)) (hb : EV G ρ (.BoolOp .Or (b :: rest) pos) (.bl y)) : EV G ρ (.BoolOp .Or (a :: b :: rest) pos) (.bl y) := ev_or (x := false) (y := y) ha fun _ => hb
theorem wv_and_f (ha : TV G ρ a false) : WV G ρ (.BoolOp .And (a :: b :: rest) pos) false := wv_and (x := false) (y := false) ha fun z => by cases z
theorem wv_and_t (ha : TV G ρ a true) (hb : WV G ρ (.BoolOp .And (b :: rest) pos) y) : WV G ρ (.BoolOp .And (a :: b :: rest) pos) y := wv_and (x := true) (y := y) ha fun _ => hb
theorem wv_or_t (ha : TV G ρ a true) : WV G ρ (.BoolOp .Or (a :: b :: rest) pos) true := wv_or (x := true) (y := true) ha fun z => by cases z
theorem wv_or_f (ha : TV G ρ a false) (hb : WV G ρ (.BoolOp .Or (b :: rest) pos) y) : WV G ρ (.BoolOp .Or (a :: b :: rest) pos) y := wv_or (x := false) (y := y) ha fun _ => hb
theorem sv_if_t {c : Expr} {body orelse : List Stmt} {out : Out} (hc : TV G ρ c true) (h : SS G ρ body out) : SV G ρ (.If c body orelse pos) out := sv_if hc (fun _ => h) fun z => by cases z
theorem sv_if_f {c : Expr} {body orelse : List Stmt} {out : Out} (hc : TV G ρ c false) (h : SS G ρ orelse out) : SV G ρ (.If c body orelse pos) out := sv_if hc (fun z => by cases z) fun _ => h
theorem tv_not_t (ha : TV G ρ a true) : TV G ρ (.UnaryOp .Not a pos) false := tv_not ha
theorem tv_not_f (ha : TV G ρ a false) : TV G ρ (.UnaryOp .Not a pos) true := tv_not ha
end
def forBody : Stmt → List Stmt
  | .For _ _ b _ _ => b
  | .While _ b _ _ => b
  | .If _ b _ _ => b
  | _ => []
def nthS (b : List Stmt) (i : Nat) : Stmt := b.getD i (.Pass ⟨0, 0, 0, 0⟩)
theorem ev_all' {G : Gam} {ρ : List Sl} {a : Expr} {pos p1 : Pos} {α : Type} {xs : List α} {f : α → Bool} (ha : LV G ρ a (xs.map fun x => PV.bl (f x))) (hc : G.calm = true) (hm : G.mg "all" = none) (hg : G.sc.names.lookup ("all" : Str) = some .globalImplicit := by first | rfl | decide +kernel) (hs : ∀ env, starEach [a] env = [(false, eval a env)] := by intro _; rfl) :
    EV G ρ (.Call (.Name "all" p1) [a] [] pos) (.bl (xs.all f)) := by
  have h := ev_all (bs := xs.map f) (p1 := p1) (pos := pos) (a := a) (G := G) (ρ := ρ) (by rw [List.map_map]; exact ha) hc hm hg hs
  rw [List.all_map] at h
  exact h
theorem span_nil {lo hi : Int} (h : hi ≤ lo) : span lo hi = [] := by
  unfold span
  rw [show (hi - lo).toNat = 0 by omega]
  rfl
theorem span_cons {lo hi : Int} (h : lo < hi) : span lo hi = lo :: span (lo + 1) hi := by
  unfold span
  rw [show (hi - lo).toNat = (hi - (lo + 1)).toNat + 1 by omega, List.range_succ_eq_map, List.map_cons, List.map_map]
  congr 1
  · simp
  · refine List.map_congr_left fun x _ => ?_
    simp only [Function.comp, Nat.succ_eq_add_one]
    omega
end VL
namespace VL
open PySem PySem.Spec PyProof.Rows L2
variable [Tb]
/-! ### repr of small values -/
def PV.fits : List PV → Bool
  | [] => true
  | p :: ps => (match p with
    | .non => true
    | .bl _ => true
    | .int i => decide (i.natAbs < 10 ^ 200)
    | .str x => decide (x.cps.size ≤ 40) && x.cps.toList.all fun c => decide (c < 16 ^ 8)
    | .tup xs => PV.fits xs
    | .lst xs => PV.fits xs
    | .exc .. => false
    | .rng .. => false) && PV.fits ps
def PV.bulk : List PV → Nat
  | [] => 0
  | p :: ps => (match p with
    | .str _ => 40
    | .tup xs => PV.bulk xs
    | .lst xs => PV.bulk xs
    | _ => 0) + 1 + PV.bulk ps
def PV.deep : List PV → Nat
  | [] => 0
  | p :: ps => max (match p with
    | .tup xs => PV.deep xs + 1
    | .lst xs => PV.deep xs + 1
    | _ => 0) (PV.deep ps)
theorem log_of {i : Int} (h : i.natAbs < 10 ^ 200) : i.natAbs.log2 < 1920 := by
  by_cases h0 : i.natAbs = 0
  · rw [h0]; decide
  · exact (Nat.log2_lt h0).mpr (Nat.lt_trans h (by decide +kernel))
theorem dats_ok : ∀ ps : List PV, PV.fits ps = true → PyData.showableAll (PV.dats ps) = true ∧ PyData.leavesShortAll 202 (PV.dats ps) = true ∧ PyData.hasDictAll (PV.dats ps) = false ∧ PyData.bulkAll (PV.dats ps) ≤ PV.bulk ps ∧ PyData.depthAll (PV.dats ps) ≤ PV.deep ps
  | [], _ => by simp [PV.dats, PyData.showableAll, PyData.leavesShortAll, PyData.hasDictAll, PyData.bulkAll, PyData.depthAll]
  | .non :: ps, h => by
    have h2 := dats_ok ps (by simpa [PV.fits] using h)
    simp [PV.dats, PyData.showableAll, PyData.leavesShortAll, PyData.hasDictAll, PyData.bulkAll, PyData.depthAll, PyData.showable, PyData.leavesShort, PyData.hasDict, PyData.bulk, PyData.depth, PV.bulk, PV.deep, h2.1, h2.2.1, h2.2.2.1]
    omega
  | .bl b :: ps, h => by
    have h2 := dats_ok ps (by simpa [PV.fits] using h)
    simp [PV.dats, PyData.showableAll, PyData.leavesShortAll, PyData.hasDictAll, PyData.bulkAll, PyData.depthAll, PyData.showable, PyData.leavesShort, PyData.hasDict, PyData.bulk, PyData.depth, PV.bulk, PV.deep, h2.1, h2.2.1, h2.2.2.1]
    omega
  | .int i :: ps, h => by
    simp only [PV.fits, Bool.and_eq_true, decide_eq_true_eq] at h
    have h2 := dats_ok ps h.2
    have h3 := log_of h.1
    have h4 : (PyData.shown (.int i)).length ≤ 202 := by
      have e := int_text_length_le10 (a := i) (k := 200) (by decide) h.1
      show (Str.ofString (toString i)).length ≤ 202
      rw [PySem.ofString_length]
      omega
    simp only [PV.dats, PyData.showableAll, PyData.leavesShortAll, PyData.hasDictAll, PyData.bulkAll, PyData.depthAll, PyData.showable, PyData.leavesShort, PyData.hasDict, PyData.bulk, PyData.depth, PV.bulk, PV.deep, h2.1, h2.2.1, h2.2.2.1, decide_eq_true h3, decide_eq_true h4, Bool.and_self, Bool.or_self, true_and]
    omega
  | .str x :: ps, h => by
    simp only [PV.fits, Bool.and_eq_true, decide_eq_true_eq] at h
    have h2 := dats_ok ps h.2
    simp only [PV.dats, PyData.showableAll, PyData.leavesShortAll, PyData.hasDictAll, PyData.bulkAll, PyData.depthAll, PyData.showable, PyData.leavesShort, PyData.hasDict, PyData.bulk, PyData.depth, PV.bulk, PV.deep, h2.1, h2.2.1, h2.2.2.1, h.1.2, Bool.and_self, Bool.or_self, true_and]
    omega
  | .tup xs :: ps, h => by
    simp only [PV.fits, Bool.and_eq_true] at h
    have h1 := dats_ok xs h.1
    have h2 := dats_ok ps h.2
    simp only [PV.dats, PyData.showableAll, PyData.leavesShortAll, PyData.hasDictAll, PyData.bulkAll, PyData.depthAll, PyData.showable, PyData.leavesShort, PyData.hasDict, PyData.bulk, PyData.depth, PV.bulk, PV.deep, h1.1, h1.2.1, h1.2.2.1, h2.1, h2.2.1, h2.2.2.1, Bool.and_self, Bool.or_self, true_and]
    omega
  | .lst xs :: ps, h => by
    simp only [PV.fits, Bool.and_eq_true] at h
    have h1 := dats_ok xs h.1
    have h2 := dats_ok ps h.2
    simp only [PV.dats, PyData.showableAll, PyData.leavesShortAll, PyData.hasDictAll, PyData.bulkAll, PyData.depthAll, PyData.showable, PyData.leavesShort, PyData.hasDict, PyData.bulk, PyData.depth, PV.bulk, PV.deep, h1.1, h1.2.1, h1.2.2.1, h2.1, h2.2.1, h2.2.2.1, Bool.and_self, Bool.or_self, true_and]
    omega
  | .exc a C d ns xs :: ps, h => by simp [PV.fits] at h
  | .rng _ _ :: ps, h => by simp [PV.fits] at h
theorem VRs.dp {K : PySem.W.Frag} {H : Hp} {B : Bd} {vs : List V} {ps : List PV} (r : VRs K H B vs ps) : PV.fits ps = true → DpAll K H vs (PV.dats ps) := by
  induction r with
  | nil => exact fun _ => by simp only [PV.dats]; exact .nil
  | non _ ih => exact fun h => by simp only [PV.dats]; exact .cons .non (ih (by simpa [PV.fits] using h))
  | bl _ ih => exact fun h => by simp only [PV.dats]; exact .cons (.bl _) (ih (by simpa [PV.fits] using h))
  | int _ ih => exact fun h => by simp only [PV.dats]; exact .cons (.int _) (ih (by simp only [PV.fits, Bool.and_eq_true] at h; exact h.2))
  | str _ ih => exact fun h => by simp only [PV.dats]; exact .cons (.str _) (ih (by simp only [PV.fits, Bool.and_eq_true] at h; exact h.2))
  | tup a _ _ ih1 ih2 =>
    intro h
    simp only [PV.fits, Bool.and_eq_true] at h
    simp only [PV.dats]
    exact .cons (.tup a (ih1 h.1)) (ih2 h.2)
  | lst a _ _ ih1 ih2 =>
    intro h
    simp only [PV.fits, Bool.and_eq_true] at h
    simp only [PV.dats]
    exact .cons (.lst a.sq (ih1 h.1)) (ih2 h.2)
  | exc _ _ _ _ _ _ => exact fun h => by simp [PV.fits] at h
  | rng _ _ _ => exact fun h => by simp [PV.fits] at h
/-- a value whose repr is told -/
structure Fit (p : PV) : Prop where
  fits : PV.fits [p] = true
  bulk : PV.bulk [p] ≤ 8000
  deep : PV.deep [p] ≤ 12
def rep (p : PV) : Str := ((PV.dats [p]).headD .none).shown
def rReprD (K : PySem.W.Frag) : List V → Hp → VK → Prop := fun xs H Q => ∃ (v : V) (d : PyData), xs = [v] ∧ Dp K H v d ∧ d.showable = true ∧ d.shown.length ≤ sizeLine ∧ d.hasDict = false ∧ d.depth ≤ 12 ∧ Q (.str d.shown) H
theorem cr_reprD {X : Cx} (gd : X.A.guards = some []) (un : X.A.units + 65 < cLine) : CallR X (.builtin "repr") (rReprD X.K) := by
  intro pins s σ H xs us Q I r h
  obtain ⟨v, d, rfl, hd, h1, h2, h3, h4, q⟩ := h
  obtain ⟨u, rfl, ru⟩ := vals1 r
  cases hd with
  | non =>
    obtain rfl : u = Value.none := ru
    exact PySem.P.repr_of_none ⟨.str _, H, I.tok _, ⟨_, rfl⟩, q⟩
  | bl b =>
    obtain rfl : u = Value.bool b := ru
    refine PySem.P.repr_of_bool ⟨.str (if b then "True" else "False"), H, I.tok _, ⟨_, rfl⟩, ?_⟩
    exact q
  | int i =>
    obtain ⟨t, rfl⟩ := ru
    exact PySem.P.repr_of_int (by simpa [PyData.showable] using h1) ⟨.str _, H, I.tok _, ⟨_, rfl⟩, q⟩
  | str x =>
    obtain ⟨t, rfl⟩ := ru
    exact PySem.P.repr_of_str (h := ⟨.str _, H, I.tok _, ⟨_, rfl⟩, q⟩) (hsz := h2)
  | lst a b =>
    obtain ⟨as, rd⟩ := Dp.reads I _ _ u (.lst a b) ru
    obtain rfl : u = _ := ru
    exact repr_of_reads' rd h1 (PyData.noDict_hsm h3) gd (by omega) (fun _ _ e => e) (fun h' u' tk kp => ⟨.str _, H, I.kept kp, ⟨_, rfl⟩, q⟩) h2
  | tup a b =>
    obtain ⟨as, rd⟩ := Dp.reads I _ _ u (.tup a b) ru
    obtain rfl : u = _ := ru
    exact repr_of_reads' rd h1 (PyData.noDict_hsm h3) gd (by omega) (fun _ _ e => e) (fun h' u' tk kp => ⟨.str _, H, I.kept kp, ⟨_, rfl⟩, q⟩) h2
theorem ev_repr {G : Gam} {ρ : List Sl} {a : Expr} {pos p1 : Pos} {p : PV} (ha : EV G ρ a p) (f : Fit p) (hm : G.mg "repr" = none) (hg : G.sc.names.lookup ("repr" : Str) = some .globalImplicit := by first | rfl | decide +kernel) (hs : ∀ env, starEach [a] env = [(false, eval a env)] := by intro _; rfl) :
    EV G ρ (.Call (.Name "repr" p1) [a] [] pos) (.str (rep p)) := by
  intro X hX U B σ H Q E k
  refine of_pe (pe_callB (cr_reprD hX.gd (by have := hX.roomH.un; omega)) (hX.gl hg) (hX.nn hm) (by decide +kernel) (pa_cons pe_w pa_nil (hs X.env)) (by decide) (by decide) (hs X.env) rfl) ?_
  refine ha X hX _ _ _ _ _ E fun v H1 e1 r1 => ?_
  have dp := VRs.dp r1 f.fits
  obtain ⟨c1, c2, c3, c4, c5⟩ := dats_ok [p] f.fits
  generalize hds : PV.dats [p] = ds at dp c1 c2 c3 c4 c5
  cases dp with
  | cons hd tl =>
    cases tl
    rename_i d
    have hr : rep p = d.shown := by unfold rep; rw [hds]; rfl
    simp only [PyData.showableAll, PyData.leavesShortAll, PyData.hasDictAll, PyData.bulkAll, PyData.depthAll, Bool.and_true, Bool.or_false, Nat.add_zero] at c1 c2 c3 c4 c5
    have len := PyData.shown_le_bulk 202 (by decide) d c2
    have b1 := f.bulk
    have b2 := f.deep
    refine ⟨v, d, rfl, by rw [hX.K]; exact hd, c1, ?_, c3, by omega, ?_⟩
    · rw [sizeLine_eq]
      have : (202 + 2) * d.bulk ≤ 204 * 8000 := Nat.mul_le_mul (by omega) (by omega)
      omega
    · rw [← hr]
      exact k _ _ e1 .s
end VL
namespace VL
open PySem PySem.Spec PyProof.Rows L2
variable [Tb]
/-! ### a list that is handed on, changed and still one's own -/
section
variable {K : PySem.W.Frag} {U : Und} {B : Bd} {H H' H1 : Hp} {σ : L2.St} {ρ : List Sl} {a : Addr} {n : Nat} {xs xs' : List PV} {us us' : List V} {pin : Option Addr}
theorem tabs_del {T : List (Addr × Str)} (h : H a = some (.lst us)) (t : LamX.Tabs T H) : LamX.Tabs T (del H a) := fun q hq => by
  obtain ⟨ps, h1, h2, h3⟩ := t q hq
  refine ⟨ps, (del_ne (fun z => by rw [z, h] at h1; cases h1)).trans h1, h2, fun pos cv hc => ?_⟩
  obtain ⟨c, e1, e2⟩ := h3 pos cv hc
  exact ⟨c, e1, (del_ne (fun z => by rw [z, h] at e2; unfold LamX.CodeO at e2; cases e2)).trans e2⟩
theorem del_some {b : Addr} {o : HO} (h : del H a b = some o) : b ≠ a ∧ H b = some o := by
  by_cases e : b = a
  · exfalso
    rw [e] at h
    unfold del at h
    simp at h
  · exact ⟨e, (del_ne e).symm.trans h⟩
theorem VRs.del {vs : List V} {ps : List PV} (hb : B a) (hl : H a = some (.lst us)) (h : VRs K H B vs ps) : VRs K (L2.del H a) B vs ps := by
  have ne : ∀ {b : Addr} {u : HO}, H b = some u → (∀ ws, u ≠ .lst ws) → b ≠ a := fun {b u} e n z => by
    rw [z, hl] at e
    exact n us (Option.some.inj e).symm
  have rt : ∀ {b : Addr} {ws : List V}, Rd H b (.tup ws) → Rd (L2.del H a) b (.tup ws) := fun {b ws} r => by
    rcases r with r | ⟨o, r⟩
    · exact .inl ((del_ne (ne r fun _ z => by cases z)).trans r)
    · exact .inr ⟨o, (del_ne (ne r fun _ z => by cases z)).trans r⟩
  have rl : ∀ {b : Addr} {ws : List V}, ¬ B b → Rd H b (.lst ws) → Rd (L2.del H a) b (.lst ws) := fun {b ws} nb r => by
    have n : b ≠ a := fun z => nb (z ▸ hb)
    rcases r with r | ⟨o, r⟩
    · exact .inl ((del_ne n).trans r)
    · exact .inr ⟨o, (del_ne n).trans r⟩
  induction h with
  | nil => exact .nil
  | non _ ih => exact .non ih
  | bl _ ih => exact .bl ih
  | int _ ih => exact .int ih
  | str _ ih => exact .str ih
  | tup a _ _ ih1 ih2 => exact .tup (a.elim (fun a => .inl (rt a)) .inr) ih1 ih2
  | lst a _ _ ih1 ih2 => exact .lst (a.elim (fun a => .inl ⟨a.1, rl a.1 a.2⟩) .inr) ih1 ih2
  | rng a _ ih => exact .rng ((del_ne (ne a fun _ z => by cases z)).trans a) ih
  | exc a b' _ _ ih1 ih2 => exact .exc ((del_ne (ne a fun _ z => by cases z)).trans a) b' ih1 ih2
theorem EnvR.step (E : EnvR K U B H1 σ ρ) (hn : ρ[n]? = some (.ow pin xs)) (hs : σ[n]? = some (some (.ref a))) (h1 : H1 a = some (.lst us)) (ex : Ex (del H1 a) H') (h' : H' a = some (.lst us')) (r : VRs K H' B us' xs') :
    EnvR K U B H' σ (ρ.set n (.ow pin xs')) ∧ ∀ vs ps, VRs K H1 B vs ps → VRs K H' B vs ps := by
  obtain ⟨a', vs', k1, k2, k3, k4, k5, k6⟩ := E.own n pin xs hn
  rw [hs] at k1
  cases k1
  have kp : ∀ vs ps, VRs K H1 B vs ps → VRs K H' B vs ps := fun vs ps q => (q.del k3 h1).ext ex
  have e0 : Ex U.H0 (del H1 a) := ⟨fun b o hb nt => by
    rw [del_ne (fun z => k4.no ⟨o, by rw [← z]; exact hb, nt⟩)]
    exact E.ex.st b o hb nt, fun t => tabs_del h1 (E.ex.tb t)⟩
  refine ⟨⟨by rw [List.length_set]; exact E.len, E.up, E.trk0, fun b z => ?_, e0.trans ex, ex.tb (tabs_del h1 E.tabs), fun g hg => kp _ _ (E.gh g hg), fun j q hq => ?_, fun j pj zs hq => ?_, fun i j pi pj zs ys b q1 q2 q3 q4 => ?_⟩, kp⟩
  · by_cases e : b = a
    · exact ⟨_, by rw [e]; exact h', fun _ z => by cases z⟩
    · obtain ⟨o, ho, nt⟩ := E.trk b z
      exact ⟨o, ex.st b o ((del_ne e).trans ho) nt, nt⟩
  · rcases set_get hq with ⟨_, e⟩ | ⟨e, hq⟩
    · cases e
    · obtain ⟨v, q1, q2⟩ := E.val j q hq
      exact ⟨v, q1, kp _ _ q2⟩
  · rcases set_get hq with ⟨e, e'⟩ | ⟨e, hq⟩
    · cases e'
      subst e
      exact ⟨a, us', hs, h', k3, k4, r, k6⟩
    · obtain ⟨b, ys, q1, q2, q3, q4, q5, q6⟩ := E.own j pj zs hq
      have ne : b ≠ a := fun z => e (E.dis n j pin pj xs zs a hn hq hs (z ▸ q1))
      exact ⟨b, ys, q1, ex.lst ((del_ne ne).trans q2), q3, q4, kp _ _ q5, q6⟩
  · have back : ∀ {j : Nat} {pj : Option Addr} {zs : List PV}, (ρ.set n (.ow pin xs'))[j]? = some (.ow pj zs) → ∃ pk zs', ρ[j]? = some (.ow pk zs') := fun {j pj zs} hq => by
      rcases set_get hq with ⟨e, _⟩ | ⟨_, hq⟩
      · exact ⟨pin, xs, e ▸ hn⟩
      · exact ⟨pj, zs, hq⟩
    obtain ⟨c1, z1, d1⟩ := back q1
    obtain ⟨c2, z2, d2⟩ := back q2
    exact E.dis i j c1 c2 z1 z2 b d1 d2 q3 q4
theorem EnvR.under {B0 B1 : Bd} {G0 G1 : Hp} (E : EnvR K ⟨B0, G0, []⟩ B H σ ρ) (sub : ∀ b, B1 b → B0 b) (tr : ∀ b, B1 b → Kn G1 b) (ex : Ex G1 G0) : EnvR K ⟨B1, G1, []⟩ B H σ ρ :=
  ⟨E.len, fun b z => E.up b (sub b z), tr, E.trk, ex.trans E.ex, E.tabs, fun g hg => (nomatch hg), E.val, fun i pin xs h => let ⟨a, vs, h1, h2, h3, h4, h5, h6⟩ := E.own i pin xs h; ⟨a, vs, h1, h2, h3, VL.fresh_back ex h4, h5, h6⟩, E.dis⟩
end
abbrev RelM := List PV → List PV → PV → List PV → Prop
def spM (K : PySem.W.Frag) (n : Nat) (R : RelM) : Sp := fun vs H Q E => LamX.Tabs Tb.T H ∧ ∃ (a : Addr) (us ws : List V) (xs args : List PV) (p : PV) (xs' : List PV) (B : Bd), vs = .ref a :: ws ∧ H a = some (.lst us) ∧ B a ∧ (∀ b, B b → Kn H b) ∧ VRs K H B us xs ∧ VRs K H B ws args ∧ args.length + 1 = n ∧ R xs args p xs' ∧
  ∀ v H' us', Ex (del H a) H' → H' a = some (.lst us') → VRs K H' B us' xs' → VR K H' B v p → Q v H'
def FnVM (P : Program) (w : World) (K : PySem.W.Frag) (mg : Str → Option Value) (base : Heap) (k : Nat) (x : Str) (ps : List Str) (R : RelM) : Prop :=
  ∃ f fd, mg x = some (.ref f) ∧ PySem.W.keepIn K (.ref f) = true ∧ FnG P w K mg base (L2N.CX P w) k f fd ps (spM K ps.length R) ∧ Binds K fd ps []
abbrev Gam.FnM (G : Gam) (k : Nat) (x : Str) (ps : List Str) (R : RelM) : Prop := FnVM G.P G.w G.K G.mg G.base k x ps R
theorem spM_len {K : PySem.W.Frag} {n : Nat} {R : RelM} : ∀ vs H Q E, spM K n R vs H Q E → vs.length = n := fun vs H Q E h => by
  obtain ⟨_, a, us, ws, xs, args, p, xs', B, rfl, _, _, _, _, r, hl, _⟩ := h
  rw [List.length_cons, r.length]
  exact hl
def startM (n : Nat) (a : Addr) (xs args : List PV) : List Sl := .ow (some a) xs :: (args.map Sl.val ++ List.replicate (n - (args.length + 1)) .no)
section
variable {P : Program} {w : World} {K : PySem.W.Frag} {mg : Str → Option Value} {base : Heap}
theorem start_envM {B : Bd} {H : Hp} {N : List Str} {a : Addr} {us ws : List V} {xs args : List PV} (h : H a = some (.lst us)) (hb : B a) (tr : ∀ b, B b → Kn H b) (tt : LamX.Tabs Tb.T H) (ru : VRs K H B us xs) (r : VRs K H B ws args) :
    EnvR K ⟨fun b => B b ∧ b ≠ a, del H a, []⟩ B H (L2.start N (.ref a :: ws)) (startM N.length a xs args) := by
  have E0 : EnvR K ⟨B, H, []⟩ B H (L2.start N (.non :: ws)) (start0 N.length (.non :: args)) := start_env (.non r) tr tt
  have E1 : EnvR K ⟨fun b => B b ∧ b ≠ a, del H a, []⟩ B H (L2.start N (.non :: ws)) (start0 N.length (.non :: args)) :=
    E0.under (fun b z => z.1) (fun b z => let ⟨o, q, nt⟩ := tr b z.1; ⟨o, (del_ne z.2).trans q, nt⟩) (⟨fun b o z _ => (del_some z).2, fun _ => tt⟩)
  have E2 := E1.setOwn (n := 0) (a := a) h hb (.of (by show del H a a = none; unfold del; simp)) ru (fun j pj zs hj _ => by
    exfalso
    unfold start0 at hj
    by_cases hi : j < (PV.non :: args).length
    · rw [List.getElem?_append_left (by rw [List.length_map]; exact hi), List.getElem?_map] at hj
      cases e : (PV.non :: args)[j]? with
      | none => rw [e] at hj; cases hj
      | some q => rw [e] at hj; cases hj
    · rw [List.getElem?_append_right (by rw [List.length_map]; exact Nat.le_of_not_lt hi), List.getElem?_replicate] at hj
      split at hj <;> cases hj)
  have eσ : (L2.start N (.non :: ws)).set 0 (some (.ref a)) = L2.start N (.ref a :: ws) := by
    unfold L2.start
    simp
  have eρ : (start0 N.length (.non :: args)).set 0 (.own xs) = .own xs :: (args.map Sl.val ++ List.replicate (N.length - (args.length + 1)) .no) := by
    unfold start0
    simp
  rw [eσ, eρ] at E2
  refine ⟨E2.len, E2.up, E2.trk0, E2.trk, E2.ex, E2.tabs, E2.gh, fun i p hp => E2.val i p ?_, fun i pin zs hp => ?_, fun i j pi pj zs ys b q1 q2 => ?_⟩
  · cases i with
    | zero => cases hp
    | succ i => exact hp
  · cases i with
    | zero =>
      cases hp
      obtain ⟨a', vs', k1, k2, k3, k4, k5, _⟩ := E2.own 0 none xs rfl
      refine ⟨a', vs', k1, k2, k3, k4, k5, fun b z => ?_⟩
      cases z
      have k1' : some (some (V.ref a)) = some (some (V.ref a')) := k1
      cases k1'
      rfl
    | succ i => exact E2.own (i + 1) pin zs hp
  · have back : ∀ {j : Nat} {pj : Option Addr} {zs : List PV}, (startM N.length a xs args)[j]? = some (.ow pj zs) → ∃ pk zs', (Sl.own xs :: (args.map Sl.val ++ List.replicate (N.length - (args.length + 1)) .no))[j]? = some (.ow pk zs') := fun {j pj zs} hq => by
      cases j with
      | zero => exact ⟨none, xs, rfl⟩
      | succ j => exact ⟨pj, zs, hq⟩
    obtain ⟨c1, z1, d1⟩ := back q1
    obtain ⟨c2, z2, d2⟩ := back q2
    exact E2.dis i j c1 c2 z1 z2 b d1 d2
theorem fn_defM {x : Str} {st : Stmt} {f : Addr} {fd : FuncData} {N ps : List Str} {k : Nat} {R : RelM} (F : Fun K x x st f fd) (S : FnScope N ps (defScope st)) (hm : mg x = some (.ref f)) (hb : Binds K fd ps [])
    (body : ∀ a xs args p xs', R xs args p xs' → args.length + 1 = ps.length → ∃ ρ', ρ'[0]? = some (.ow (some a) xs') ∧ SS (gam P w K mg base N st k true) (startM N.length a xs args) (defBody st) (.rto ρ' p)) : FnVM P w K mg base (k + 1) x ps R := by
  refine ⟨f, fd, hm, F.kp, ?_, hb⟩
  obtain ⟨oc, od, kV, doc, pm, an, cdv, ct, osl, rfl, lk, hcd⟩ := F.ex
  refine fnG_of lk hcd S spM_len fun A outer s H vs Q E gd hr hsp => ?_
  obtain ⟨tt, a, us, ws, xs, args, p, xs', B, rfl, hl, ha, tr, ru, r, hn, hR, q⟩ := hsp
  obtain ⟨ρ', h0, hss⟩ := body a xs args p xs' hR hn
  refine ⟨_, pss_w, ?_⟩
  refine hss _ (fun c d _ H => E c d H) ⟨rfl, rfl, rfl, rfl, rfl, rfl, rfl, rfl, rfl, S.nd, gd, L2H.roomH_of hr, fun _ => hr, (fun z => by cases z), trivial⟩ ⟨L2N.takes_of rfl rfl rfl rfl, passes_of rfl, rfl, rfl⟩ _ _ _ _ _ (start_envM hl ha tr tt ru r) ?_
  intro B' v σ H' R' r'
  obtain ⟨a', us', k1, k2, k3, k4, k5, k6⟩ := R'.own 0 _ _ h0
  obtain rfl : a' = a := k6 a rfl
  have sub : ∀ b, B b → B' b := fun b z => by
    by_cases e : b = a'
    · rw [e]; exact k3
    · exact R'.up b ⟨z, e⟩
  exact q v H' us' R'.ex k2 (k5.anti sub) (r'.anti sub)
end
/-! ### expressions that change such a list -/
def EM (G : Gam) (ρ : List Sl) (e : Expr) (p : PV) (ρ' : List Sl) : Prop := ∀ X, Fits G X → ∀ (U : Und) (B : Bd) (σ : L2.St) (H : Hp) (Q : VK), EnvR G.K U B H σ ρ →
  (∀ v H', EnvR G.K U B H' σ ρ' → VR G.K H' B v p → (∀ vs ps, VRs G.K H B vs ps → VRs G.K H' B vs ps) → Q v H') → wE X e σ H Q
def TM (G : Gam) (ρ : List Sl) (e : Expr) (b : Bool) (ρ' : List Sl) : Prop := ∀ X, Fits G X → ∀ (U : Und) (B : Bd) (σ : L2.St) (H : Hp) (Q : Bool → Hp → Prop), EnvR G.K U B H σ ρ → (∀ H', EnvR G.K U B H' σ ρ' → Q b H') → wT X e σ H Q
def WM (G : Gam) (ρ : List Sl) (e : Expr) (b : Bool) (ρ' : List Sl) : Prop := ∀ X, Fits G X → ∀ (U : Und) (B : Bd) (σ : L2.St) (H : Hp) (Q : Bool → Hp → Prop), EnvR G.K U B H σ ρ → (∀ H', EnvR G.K U B H' σ ρ' → Q b H') → wW X e σ H Q
def AM (G : Gam) (ρ : List Sl) (es : List Expr) (ps : List PV) (ρ' : List Sl) : Prop := ∀ X, Fits G X → ∀ (U : Und) (B : Bd) (σ : L2.St) (H : Hp) (Q : List V → Hp → Prop), EnvR G.K U B H σ ρ → (∀ vs H', EnvR G.K U B H' σ ρ' → VRs G.K H' B vs ps → (∀ vs ps, VRs G.K H B vs ps → VRs G.K H' B vs ps) → Q vs H') → wA X es σ H Q
section
variable {G : Gam} {ρ ρ1 ρ2 : List Sl} {a b c e : Expr} {es rest : List Expr} {pos p1 p2 p3 : Pos} {i j : Int} {p q r : PV} {x y : Bool} {n k : Nat} {z f : Str} {xs xs' args : List PV} {pin : Option Addr}
theorem em_ev (h : EV G ρ e p) : EM G ρ e p ρ := fun X hX U B σ H Q E q => h X hX _ _ _ _ _ E fun v H1 e1 r1 => q v H1 (E.mono e1) r1 fun _ _ r => r.ext e1
theorem tm_tv (h : TV G ρ e x) : TM G ρ e x ρ := fun X hX U B σ H Q E q => h X hX _ _ _ _ _ E fun H1 e1 => q H1 (E.mono e1)
theorem em_call {ps : List Str} {R : RelM} (F : G.FnM k f ps R) (hc : G.calm = true) (hk : k ≤ G.k) (hN : G.N[n]? = some z) (hv : Vis G.sc z) (hn : ρ[n]? = some (.ow pin xs)) (ha : AV G ρ es args) (hR : R xs args p xs') (hl : args.length + 1 = ps.length)
    (hg : G.sc.names.lookup f = some .globalImplicit := by first | rfl | decide +kernel) (hd : (f == ("__debug__" : Str)) = false := by decide) (hd2 : (z == ("__debug__" : Str)) = false := by decide) (hd3 : (z == ("__classdict__" : Str)) = false := by decide)
    (hs : ∀ env, starEach (.Name z p2 :: es) env = (false, eval (.Name z p2) env) :: starEach es env := by intro _; rfl) (hpl : ∀ env, (backTo pos (starEach es env)).any (·.1) = false := by intro _; rfl) : EM G ρ (.Call (.Name f p1) (.Name z p2 :: es) [] pos) p (ρ.set n (.ow pin xs')) := by
  obtain ⟨g, fd, hm, hkp, F, hb⟩ := F
  intro X hX U B σ H Q E q
  have F' : FnG X.prog X.w X.K X.mg X.base (L2N.CX X.prog X.w) k g fd ps (spM G.K ps.length R) := by rw [hX.prog, hX.w, hX.K, hX.mg, hX.base]; exact F
  refine of_pe (pe_callG (E := fun _ _ _ _ => False) F' ((hX.room hc).mono hk) hX.gd (hX.gl hg) (by rw [hX.mg]; exact hm) (by rw [hX.K]; exact hkp) (by rw [hX.K]; exact hb) (fun _ => pass0H) (pa_cons (pe_var (i := n) (by rw [hX.N]; exact hN) (by rw [hX.sc]; exact hv) hd2 hd3) pa_w (hs X.env)) hd (hs X.env) (hpl X.env)) ?_
  obtain ⟨a, us, h1, h2, h3, h4, h5, h6⟩ := E.own n pin xs hn
  refine ⟨_, h1, ha X hX _ _ _ _ _ E fun vs H1 e1 rs => ?_⟩
  have E1 := E.mono e1
  refine ⟨E1.tabs, a, us, vs, xs, args, p, xs', B, rfl, e1.lst h2, h3, E1.trk, h5.ext e1, rs, hl, hR, fun v H' us' ex h' r' rp => ?_⟩
  obtain ⟨E2, kp⟩ := E1.step hn h1 (e1.lst h2) ex h' r'
  exact q v H' E2 rp fun _ _ r => kp _ _ (r.ext e1)
theorem em_op {op : Operator} {R : R2} (ho : ∀ X, Fits G X → OpR X (binaryOp op) R) (ha : EM G ρ a p ρ1) (hb : EM G ρ1 b q ρ2)
    (hR : ∀ (B : Bd) v w H (Q : VK), VR G.K H B v p → VR G.K H B w q → (∀ z, VR G.K H B z r → Q z H) → R v w H Q) : EM G ρ (.BinOp a op b pos) r ρ2 := by
  intro X hX U B σ H Q E k
  refine of_pe (pe_op (ho X hX) pe_w pe_w) ?_
  refine ha X hX _ _ _ _ _ E fun v H1 E1 r1 k1 => ?_
  refine hb X hX _ _ _ _ _ E1 fun w H2 E2 r2 k2 => ?_
  exact hR B v w H2 Q (k2 _ _ r1) r2 fun z r3 => k z H2 E2 r3 fun _ _ q => k2 _ _ (k1 _ _ q)
theorem em_add (ha : EM G ρ a (.int i) ρ1) (hb : EM G ρ1 b (.int j) ρ2) : EM G ρ (.BinOp a .Add b pos) (.int (i + j)) ρ2 :=
  em_op (fun _ _ => op_add) ha hb fun B v w H Q r1 r2 k => ⟨i, j, vr_int r1, vr_int r2, k _ .i⟩
theorem em_sub (ha : EM G ρ a (.int i) ρ1) (hb : EM G ρ1 b (.int j) ρ2) : EM G ρ (.BinOp a .Sub b pos) (.int (i - j)) ρ2 :=
  em_op (fun _ _ => op_sub) ha hb fun B v w H Q r1 r2 k => ⟨i, j, vr_int r1, vr_int r2, k _ .i⟩
theorem em_mul (ha : EM G ρ a (.int i) ρ1) (hb : EM G ρ1 b (.int j) ρ2) (hc : CMul i j) : EM G ρ (.BinOp a .Mult b pos) (.int (i * j)) ρ2 :=
  em_op (fun _ _ => op_mul) ha hb fun B v w H Q r1 r2 k => ⟨i, j, vr_int r1, vr_int r2, hc, k _ .i⟩
theorem tm_cmp {op : CmpOp} {R : R2} (ho : ∀ X, Fits G X → OpR X (compareOp op) R) (ha : EM G ρ a p ρ1) (hb : EV G ρ1 b q) (hm : behindInMarks op b = false)
    (hR : ∀ (B : Bd) v w H (Q : VK), VR G.K H B v p → VR G.K H B w q → Q (.bl x) H → R v w H Q) : TM G ρ (.Compare a [op] [b] pos) x ρ1 := by
  intro X hX U B σ H Q E k
  refine of_pt (pt_cmpR (ho X hX) pe_w pe_w hm) ?_
  refine ha X hX _ _ _ _ _ E fun v H1 E1 r1 k1 => ?_
  refine hb X hX _ _ _ _ _ E1 fun w H2 e2 r2 => ?_
  exact hR B v w H2 _ (r1.ext e2) r2 ⟨x, rfl, k H2 (E1.mono e2)⟩
theorem tm_eqi (ha : EM G ρ a (.int i) ρ1) (hb : EV G ρ1 b (.int j)) (hm : behindInMarks .Eq b = false := by first | rfl | exact nobehind _ (by decide) (by decide)) : TM G ρ (.Compare a [.Eq] [b] pos) (decide (i = j)) ρ1 :=
  tm_cmp (fun _ _ => op_eq) ha hb hm fun B v w H Q r1 r2 k => by
    rw [vr_int r1, vr_int r2]
    refine ⟨rfl, ?_⟩
    rw [show decide (V.int i = V.int j) = decide (i = j) from by simp]
    exact k
theorem tm_lt (ha : EM G ρ a (.int i) ρ1) (hb : EV G ρ1 b (.int j)) (hm : behindInMarks .Lt b = false := by first | rfl | exact nobehind _ (by decide) (by decide)) : TM G ρ (.Compare a [.Lt] [b] pos) (decide (i < j)) ρ1 :=
  tm_cmp (fun _ _ => op_lt) ha hb hm fun B v w H Q r1 r2 k => ⟨i, j, vr_int r1, vr_int r2, k⟩
theorem wm_and1 (ha : TM G ρ a x ρ1) : WM G ρ (.BoolOp .And [a] pos) x ρ1 := fun X hX U B σ H Q E q => of_pw (pw_and1 pt_w) (ha X hX _ _ _ _ _ E q)
theorem wm_or1 (ha : TM G ρ a x ρ1) : WM G ρ (.BoolOp .Or [a] pos) x ρ1 := fun X hX U B σ H Q E q => of_pw (pw_or1 pt_w) (ha X hX _ _ _ _ _ E q)
theorem wm_and_t (ha : TV G ρ a true) (hb : WM G ρ (.BoolOp .And (b :: rest) pos) y ρ1) : WM G ρ (.BoolOp .And (a :: b :: rest) pos) y ρ1 := fun X hX U B σ H Q E q =>
  of_pw (pw_and pt_w pw_w) (ha X hX _ _ _ _ _ E fun H1 e1 => (if_pos rfl).mpr (hb X hX _ _ _ _ _ (E.mono e1) q))
theorem wm_or_f (ha : TV G ρ a false) (hb : WM G ρ (.BoolOp .Or (b :: rest) pos) y ρ1) : WM G ρ (.BoolOp .Or (a :: b :: rest) pos) y ρ1 := fun X hX U B σ H Q E q =>
  of_pw (pw_or pt_w pw_w) (ha X hX _ _ _ _ _ E fun H1 e1 => (if_neg Bool.false_ne_true).mpr (hb X hX _ _ _ _ _ (E.mono e1) q))
theorem tm_w (h : WM G ρ a x ρ1) : TM G ρ a x ρ1 := fun X hX U B σ H Q E q => of_pt pw_w.pt (h X hX _ _ _ _ _ E q)
theorem am_nil : AM G ρ [] [] ρ := fun X hX U B σ H Q E q => of_pa pa_nil (q _ _ E .nil fun _ _ r => r)
theorem am_cons {ps : List PV} (ha : EM G ρ a p ρ1) (hr : AM G ρ1 es ps ρ2) (hs : ∀ env, starEach (a :: es) env = (false, eval a env) :: starEach es env := by intro _; rfl) : AM G ρ (a :: es) (p :: ps) ρ2 := fun X hX U B σ H Q E q =>
  of_pa (pa_cons pe_w pa_w (hs X.env)) (ha X hX _ _ _ _ _ E fun v H1 E1 r1 k1 => hr X hX _ _ _ _ _ E1 fun vs H2 E2 r2 k2 => q _ _ E2 (VRs.cons (k2 _ _ r1) r2) fun _ _ r => k2 _ _ (k1 _ _ r))
theorem em_tup {ps : List PV} {m : Nat} (ha : AM G ρ es ps ρ1) (hl : ps.length ≤ 100000) : EM G ρ (.Tuple es m pos) (.tup ps) ρ1 := fun X hX U B σ H Q E q =>
  of_pe (pe_tup pa_w) (ha X hX _ _ _ _ _ E fun vs H1 E1 r1 k1 => ⟨Evl.sz_of (by rw [r1.length]; exact hl), fun t nt => q _ _ (E1.mono (Ex.new nt)) (.t (Evl.st_of upd_same) (r1.ext (Ex.new nt))) fun _ _ r => (k1 _ _ r).ext (Ex.new nt)⟩)
theorem em_ixT {ps : List PV} {n : Nat} (ha : EV G ρ a (.tup ps)) (hb : EM G ρ b (.int i) ρ1) (hi : i = (n : Int)) (h : ps[n]? = some p) (hs : PlainIx b := by exact fun _ _ => rfl) : EM G ρ (.Subscript a b pos) p ρ1 := by
  intro X hX U B σ H Q E k
  refine of_pe (pe_ix ix_tup pe_w pe_w hs) ?_
  refine ha X hX _ _ _ _ _ E fun v H1 e1 r1 => hb X hX _ _ _ _ _ (E.mono e1) fun w H2 E2 r2 k2 => ?_
  obtain ⟨t, ws, rfl, hT, rs⟩ := vr_tup (k2 _ _ r1)
  obtain ⟨u, h1, h2⟩ := atI_get rs h
  refine ⟨t, ws, _, u, rfl, vr_int r2, by rw [hX.K]; exact hT, by rw [hi]; exact h1, k u H2 E2 h2 fun _ _ r => k2 _ _ (r.ext e1)⟩
theorem em_ixL {ps : List PV} {n : Nat} (ha : EV G ρ a (.lst ps)) (hb : EM G ρ b (.int i) ρ1) (hi : i = (n : Int)) (h : ps[n]? = some p) (hs : PlainIx b := by exact fun _ _ => rfl) : EM G ρ (.Subscript a b pos) p ρ1 := by
  intro X hX U B σ H Q E k
  refine of_pe (pe_ix ix_list pe_w pe_w hs) ?_
  refine ha X hX _ _ _ _ _ E fun v H1 e1 r1 => hb X hX _ _ _ _ _ (E.mono e1) fun w H2 E2 r2 k2 => ?_
  obtain ⟨t, ws, rfl, hT, rs⟩ := vr_lst (k2 _ _ r1)
  obtain ⟨u, h1, h2⟩ := atI_get rs h
  refine ⟨t, ws, _, u, rfl, vr_int r2, by rw [hX.K]; exact hT.sq, by rw [hi]; exact h1, k u H2 E2 h2 fun _ _ r => k2 _ _ (r.ext e1)⟩
end
/-! ### statements -/
section
variable {G : Gam} {ρ ρ1 ρ2 : List Sl} {a b c e : Expr} {body orelse : List Stmt} {out : Out} {pos p1 p2 p3 : Pos} {i j : Int} {p q : PV} {x : Bool} {n : Nat} {z : Str} {xs : List PV} {pin : Option Addr}
theorem sv_setM (hi : G.N[n]? = some z) (hx : Loc G.sc z) (he : EM G ρ e p ρ1) (hf : G.fn z = true ∨ G.sc.names.lookup z = some .local := by first | exact .inl rfl | exact .inr rfl)
    (hs : ∀ env, swapsWith e (some (.Name z p1)) pos.line env = pure false := by intro _; rfl) : SV G ρ (.Assign [.Name z p1] e pos) (.nx (ρ1.set n (.val p))) := fun X E hX hA U B σ H D R h =>
  of_ps (ps_set (i := n) (by rw [hX.N]; exact hX.nd) (by rw [hX.N]; exact hi) (hX.loc hx) pe_w (hs X.env) (hX.fnl hf)) (he X hX _ _ _ _ _ R fun v H1 E1 r1 k1 => h B _ H1 (E1.set r1))
theorem sv_retM (he : EM G ρ e p ρ1) : SV G ρ (.Return (some e) pos) (.rto ρ1 p) := fun X E hX hA U B σ H D R h =>
  of_ps (ps_ret pe_w) (he X hX _ _ _ _ _ R fun v H1 E1 r1 k1 => h B v σ H1 E1 r1)
theorem sv_ifM_t (hc : TM G ρ c true ρ1) (h1 : SS G ρ1 body out) : SV G ρ (.If c body orelse pos) out := fun X E hX hA U B σ H D R h =>
  of_ps (ps_if pt_w pss_w pss_w) (hc X hX _ _ _ _ _ R fun H1 E1 => (if_pos rfl).mpr (h1 X E hX hA _ _ _ _ _ E1 h))
theorem sv_ifM_f (hc : TM G ρ c false ρ1) (h1 : SS G ρ1 orelse out) : SV G ρ (.If c body orelse pos) out := fun X E hX hA U B σ H D R h =>
  of_ps (ps_if pt_w pss_w pss_w) (hc X hX _ _ _ _ _ R fun H1 E1 => (if_neg Bool.false_ne_true).mpr (h1 X E hX hA _ _ _ _ _ E1 h))
/-- x.append(e), e changes another list -/
theorem sv_appendM (hi : G.N[n]? = some z) (hv : Vis G.sc z) (hn : ρ1[n]? = some (.ow pin xs)) (he : EM G ρ e p ρ1) (hn0 : ρ[n]? = some (.ow pin xs)) (hl : xs.length < 100000) (hd : (z == ("__debug__" : Str)) = false := by decide) (hcd : (z == ("__classdict__" : Str)) = false := by decide)
    (hs : ∀ env, starEach [e] env = [(false, eval e env)] := by intro _; rfl) (hbase : ∀ env, attributeBase (.Name z p1) "append" env (eval (.Name z p1) env) = eval (.Name z p1) env := by intro _; rfl) (hline : (p2.endLine == p3.line) = true := by rfl) :
    SV G ρ (.Expr (.Call (.Attribute (.Name z p1) "append" p2) [e] [] p3) pos) (.nx (ρ1.set n (.ow pin (xs ++ [p])))) := fun X E hX hA U B σ H D R h => by
  obtain ⟨l, vs, h1, h2, h3, h4, h5, h6⟩ := R.own n pin xs hn0
  have few : ((backTo p3 (starEach [e] X.env)).all (fun x => !x.1) && (backToKw p3 (keywordEach [] X.env)).all (fun x => x.1.isSome) && decide ([e].length + ([] : List Keyword).length + (if ([] : List Keyword).isEmpty then 0 else 1) < 30)) = true := by rw [hs X.env]; rfl
  refine of_ps (ps_expr (pe_bm PySem.F.plainAttrs_list PySem.F.slot_list_append PySem.F.type_list_append mt_append (pe_var (i := n) (by rw [hX.N]; exact hi) (by rw [hX.sc]; exact hv) hd hcd) (pa_cons pe_w pa_nil (hs X.env)) (hbase X.env) few hline (hs X.env) rfl)) ?_
  refine ⟨_, h1, .inl ⟨rfl, _, Evl.sq_of h2⟩, he X hX _ _ _ _ _ R fun v H1 E1 r1 k1 => ?_⟩
  obtain ⟨l', vs', h1', h2', h3', h4', h5', h6'⟩ := E1.own n pin xs hn
  rw [h1] at h1'
  cases h1'
  refine ⟨l, vs', v, rfl, rfl, h2', Evl.sz_lt (by rw [h5'.length]; exact hl), h B σ _ (E1.mutOwn hn h1 h2' (h5'.snoc r1))⟩
theorem sv_unpackM {ts : List Expr} {ns : List Nat} {k : Nat} (h : Names1 G ts ns) (hc : G.calm = true) (he : EM G ρ e (.tup xs) ρ1) (hl : xs.length = ns.length) (hn : ∀ env, (assignEach ts env).length = ns.length := by intro _; rfl) (hst : ∀ env, (assignEach ts env).findIdx? (·.1) = none := by intro _; rfl)
    (hs : ∀ env, swapsWithSole [.Tuple ts k p1] e pos.line env = pure false := by intro _; rfl) (hw : ∀ env, swappedStores [.Tuple ts k p1] e env = pure none := by intro _; rfl)
    (h1' : ∀ env, (assignEach [.Tuple ts k p1] env).map (·.2) = [assign (.Tuple ts k p1) env] := by intro _; rfl) : SV G ρ (.Assign [.Tuple ts k p1] e pos) (.nx (setAll ns xs ρ1)) := fun X E hX hA U B σ H D R hD => by
  obtain ⟨g, hg, hq⟩ := bv_many (k := k) (pos := p1) h hc hn hst X hX
  refine of_ps (ps_asg pe_w hg (hs X.env) (hw X.env) (h1' X.env)) (he X hX _ _ _ _ _ R fun v H1 E1 r1 k1 => ?_)
  exact hq U B σ H1 ρ1 v (.tup xs) _ E1 r1 hl fun σ' R' _ => hD B σ' H1 R'
/-- for over range(a, b), a and b change a list -/
theorem sv_forM {tg : Expr} {T : Tg} {p4 : Pos} (hc : G.calm = true) (ha : EM G ρ a (.int i) ρ1) (hb : EM G ρ1 b (.int j) ρ2) (hr : -(2 ^ 62) ≤ i ∧ i < 2 ^ 62 ∧ -(2 ^ 62) ≤ j ∧ j < 2 ^ 62) (hm : G.mg "range" = none) (ht : BV G tg T) (h : LoopV G T body (rng i (j - i).toNat) ρ2 out)
    (hg : G.sc.names.lookup ("range" : Str) = some .globalImplicit := by first | rfl | decide +kernel) (hs1 : ∀ env, starEach [a, b] env = [(false, eval a env), (false, eval b env)] := by intro _; rfl) (hs2 : ∀ env, starEach [b] env = [(false, eval b env)] := by intro _; rfl)
    (hs : ∀ env x, foldedSetIterable (.Call (.Name "range" p1) [a, b] [] p4) env x = pure x := by intro _ _; rfl) : SV G ρ (.For tg (.Call (.Name "range" p1) [a, b] [] p4) body [] pos) out := by
  intro X E hX hA U B σ H D R hD
  have base : SV G ρ2 (.For tg (.Call (.Name "range" p1) [a, b] [] p4) body [] pos) out → True := fun _ => trivial
  obtain ⟨g, hpg, hgq⟩ := ht X hX
  refine of_ps (ps_for hA.po (by rw [hX.calm]; exact hc) (pi_range2 (hX.gl hg) (hX.nn hm) (pa_cons pe_w (pa_cons pe_w pa_nil (hs2 X.env)) (by rw [hs1, hs2])) (hs1 X.env) (hs2 X.env)) hpg pss_w (hs X.env)) ?_
  refine ha X hX _ _ _ _ _ R fun v H1 E1 r1 k1 => hb X hX _ _ _ _ _ E1 fun w H2 E2 r2 k2 => ⟨i, j, by rw [vr_int r1, vr_int r2], hr, ?_⟩
  generalize hits : rng i (j - i).toNat = its at h
  have hit : ∀ B' H', Items G.K (Itr i (j - i).toNat) H' B' its := fun B' H' => by
    rw [← hits]
    exact items_rng
  refine ⟨fun t m σ H => ∃ (B : Bd) (ρ : List Sl), EnvR G.K U B H σ ρ ∧ m = its.length - t ∧ t ≤ its.length ∧ LoopV G T body (its.drop t) ρ out, ⟨its.length, B, ρ2, E2, rfl, Nat.zero_le _, h⟩, ?_⟩
  rintro t m σ1 H2 ⟨B2, ρ3, R2, rfl, hle, hL⟩
  have hI := hit B2 H2 t
  by_cases hlt : t < its.length
  · obtain ⟨hgo, hy⟩ := hI.1 hlt
    refine .inr ⟨hgo, ?_⟩
    rw [List.drop_eq_getElem_cons hlt] at hL
    have step : ∀ {o2 : Out} (N : L2.St → Hp → Prop), T.fits its[t] → SS G (T.bind its[t] ρ3) body o2 → OutOk G.K U { D with nx := N, ct := N, bk := D.nx } E o2 →
        ∀ x H', (Itr i (j - i).toNat).yld t H2 x H' → g x σ1 H' fun σ3 H3 => wB X body { D with nx := N, ct := N, bk := D.nx } σ3 H3 := fun {o2} N hf hss ho x H' y => by
      obtain ⟨rfl, p, hp, r⟩ := hy x H' y
      rw [List.getElem?_eq_getElem hlt] at hp
      cases hp
      exact hgq U B2 σ1 H' ρ3 x _ _ R2 r hf fun σ3 R3 _ => hss X E hX hA _ _ _ _ _ R3 ho
    cases hL with
    | next hf hss hr =>
      refine ⟨fun σ' H' => ∃ B', EnvR G.K U B' H' σ' _, fun σ' H' ⟨B', R'⟩ => ⟨its.length - (t + 1), by omega, B', _, R', rfl, hlt, hr⟩, step _ hf hss fun B' σ' H' R' => ⟨B', R'⟩⟩
    | cont hf hss hr =>
      refine ⟨fun σ' H' => ∃ B', EnvR G.K U B' H' σ' _, fun σ' H' ⟨B', R'⟩ => ⟨its.length - (t + 1), by omega, B', _, R', rfl, hlt, hr⟩, step _ hf hss fun B' σ' H' R' => ⟨B', R'⟩⟩
    | brk hf hss => exact ⟨fun _ _ => False, fun _ _ z => z.elim, step _ hf hss hD⟩
    | ret hf hss => exact ⟨fun _ _ => False, fun _ _ z => z.elim, step _ hf hss hD⟩
    | exc hf hss => exact ⟨fun _ _ => False, fun _ _ z => z.elim, step _ hf hss hD⟩
  · refine .inl ⟨hI.2 (Nat.le_of_not_lt hlt), ?_⟩
    rw [List.drop_eq_nil_of_le (Nat.le_of_not_lt hlt)] at hL
    cases hL
    exact hD B2 σ1 H2 R2
end
end VL
namespace VL
open PySem PySem.Spec PyProof.Rows L2
open L2H (RoomH HotC FnH)
variable [Tb]
/-! ### try, the first of several clauses -/
def w1 (K : PySem.W.Frag) (c : Value) (i : Nat) (ts : Addr → Value → Option Addr → TS) (D : Ends) : WX := fun cls d σ H => PySem.W.exmOne K cls c = some true ∧
  ∀ a, H a = none → ts a cls d { nx := fun σ' H' => D.nx (σ'.set i none) H', rt := D.rt, bk := fun σ' H' => D.bk (σ'.set i none) H', ct := fun σ' H' => D.ct (σ'.set i none) H' } (σ.set i (some (.ref a))) H
section
variable {X : Cx} {x n : Str} {c : Value} {i : Nat} {body suite : List Stmt} {b₀ : Stmt} {hds : List ExceptHandler} {np pos pos' : Pos} {tb : WX → TS} {ts : Addr → Value → Option Addr → TS}
theorem ps_try_as1 (hs : X.stack = X.env :: X.outer) (hf : X.env.frame = some X.env.locals) (hN : X.N.Nodup) (hi : X.N[i]? = some n) (hln : X.env.kindOf n = some .local) (hc : Names X x c)
    (hb : ∀ (W : WX) (pn : List (Addr × Obj)) (xe : Value → Shared → Prop), L2N.Takes (X.tr pn xe) W → PassesOwn (model X.prog X.w) X.A X.env xe → PSs (X.tr pn xe) body (tb W))
    (hsu : ∀ (a : Addr) (oe : Obj) (cls : Value) (d : Option Addr) (pn : List (Addr × Obj)), L2N.Zn cls d oe → (∃ vs, oe.data = .fields vs) → PSs (X.suite a ((a, oe) :: pn)) (b₀ :: suite) (ts a cls d)) :
    PS X (.Try body (.ExceptHandler (some (.Name x np)) (some n) (b₀ :: suite) pos' :: hds) [] [] pos) (fun D σ H => tb (w1 X.K c i ts D) D σ H) := ⟨fun pins s σ H D I h => by
  have ok0 := I.ok
  have frm : X.A.frames = some (X.env :: X.outer) := ok0.frames.trans (congrArg some hs)
  refine wpAny_Try_except (wpAny_mono ((hb (w1 X.K c i ts D) (X.pn ++ pins) (fun e s₁ => wpAny (model X.prog X.w) X.A (noteFrame e X.env) (fun _ s₂ => wpAny (model X.prog X.w) X.A (setFlight e none) (fun _ s₃ =>
      wpAny (model X.prog X.w) X.A (handleBy e X.env (.ExceptHandler (some (.Name x np)) (some n) (b₀ :: suite) pos' :: hds)) (SP X pins D) X.xe s₃) X.xe s₂) X.xe s₁) (fun u s' xx => ?_) PassesOwn.looking).run [] s σ H D (I.toTry _) h) (fun fl s1 hsp => ?_) (fun _ _ he => he))
  · obtain ⟨a, B, sI, pins', σ', H', cls, d, eu, J', nb, up, sky, na, os, ag, hb1, hyes⟩ := xx
    subst eu
    have J : Inv X pins σ' H' sI := J'.ofTry ok0
    rw [show (X.tr (X.pn ++ pins) _).stack = X.env :: X.outer from hs] at sky
    refine L2N.Sky.land L2N.Zn.steady frm hf sky fun hp fl3 up3 => ?_
    have J3 : Inv X pins σ' H' { s' with heap := hp } := J.landed nb fl3.1 (up.trans up3) os ag
    obtain ⟨oe3, vs3, he3, hz3, hd3⟩ := fl3.there
    have nfr : a ∉ frs (X.env :: X.outer) := fun hm => by
      obtain ⟨_, o', e', hnf⟩ := fl3.2.2.1.mem hm
      cases he3.symm.trans e'
      exact hnf _ hd3
    have nL : a ≠ X.env.locals := fun z => nfr (List.mem_filterMap.mpr ⟨X.env, List.mem_cons_self, hf.trans (congrArg some z.symm)⟩)
    have nF : a ∉ X.fs := fun hm => let ⟨e, he, q⟩ := List.mem_filterMap.mp hm; nfr (List.mem_filterMap.mpr ⟨e, List.mem_cons_of_mem _ he, q⟩)
    have S3 := J3.suite he3 hd3 na nL nF
    have isT : PySem.W.Looks (model X.prog X.w) hp (typeOf (.ref a)) cls := fun A Q E s k q => wpAny_typeOf_ref (k _ _ he3) (hz3.1 ▸ q)
    have isM := PySem.W.exm_one (M := model X.prog X.w) J3.kIn isT hb1
    refine wpAny_handleBy_cons (codeAny_handlers_test ?_) (fun q => by cases q)
    have test : ∀ {Q E : Value → Shared → Prop}, Q c { s' with heap := hp } → wpAny (model X.prog X.w) (X.A.mark (some (.ref a))) (eval (.Name x np) X.env) Q E { s' with heap := hp } := fun {Q E} q => by
      rcases hc with ⟨hg, hdbg, hm | ⟨hm, hv, hnn⟩⟩
      · exact ld_glob (X := X.suite a ((a, oe3) :: (X.pn ++ pins))) S3 hg hm q hdbg
      · exact ld_blt (X := X.suite a ((a, oe3) :: (X.pn ++ pins))) S3 hg hm hv q hnn hdbg
    refine test (isM.here (codeAny_handlers_suite_as (HandSPX.lands_againZ fl3 fun hq fl4 up4 => ?_)))
    obtain ⟨oe4, vs4, he4, hz4, hd4⟩ := fl4.there
    have S4 := (J.landed nb fl4.1 ((up.trans up3).trans up4) os ag : Inv X pins σ' H' { s' with heap := hq }).suite he4 hd4 na nL nF
    refine store_ok (X := X.suite a ((a, oe4) :: (X.pn ++ pins))) (v := .ref a) S4 hN hi (.inl hln) rfl (fun s5 S5 => ?_) (.inr hln)
    refine wpAny_mono ((hsu a oe4 cls d (X.pn ++ pins) hz4 ⟨_, hd4⟩).run [] s5 _ H' _ S5 (hyes a na)) (fun fl s6 hsp => ?_) (fun _ _ z => z.elim)
    have fin : ∀ {σ6 : L2.St} {H6 : Hp} {Q : Shared → Prop}, Inv (X.suite a ((a, oe4) :: (X.pn ++ pins))) [] σ6 H6 s6 → (∀ s7, Inv X pins (σ6.set i none) H6 s7 → Q s7) →
        wpAny (model X.prog X.w) X.A (do bindName X.env n .none; unbindBehindTheSuite X.env n pos') (fun _ s7 => Q s7) X.xe s6 := fun S6 q => gone_ok (S6.unsuite ok0) hN hi hln q
    cases fl with
    | ret u => exact let ⟨v6, _, _, S6, r6, q6⟩ := hsp; fin S6 fun s7 J7 => ⟨v6, _, _, J7, r6, q6⟩
    | next => exact let ⟨_, _, S6, q6⟩ := hsp; fin S6 fun s7 J7 => ⟨_, _, J7, q6⟩
    | brk => exact let ⟨_, _, S6, q6⟩ := hsp; fin S6 fun s7 J7 => ⟨_, _, J7, q6⟩
    | cont => exact let ⟨_, _, S6, q6⟩ := hsp; fin S6 fun s7 J7 => ⟨_, _, J7, q6⟩
  · cases fl with
    | ret u => exact let ⟨v, σ', H', J', r, q⟩ := hsp; ⟨v, σ', H', J'.ofTry ok0, r, q⟩
    | next => exact let ⟨σ', H', J', q⟩ := hsp; wpAny_execs_nil ⟨σ', H', J'.ofTry ok0, q⟩
    | brk => exact let ⟨σ', H', J', q⟩ := hsp; ⟨σ', H', J'.ofTry ok0, q⟩
    | cont => exact let ⟨σ', H', J', q⟩ := hsp; ⟨σ', H', J'.ofTry ok0, q⟩⟩
end
theorem EnvR.put {K : PySem.W.Frag} {U : Und} {B : Bd} {H : Hp} {σ : L2.St} {ρ : List Sl} (E : EnvR K U B H σ ρ) {n : Nat} {x : Option V} : EnvR K U B H (σ.set n x) (ρ.set n .no) where
  len := by rw [List.length_set, List.length_set]; exact E.len
  up := E.up
  trk0 := E.trk0
  trk := E.trk
  ex := E.ex
  tabs := E.tabs
  gh := E.gh
  val := fun j q h => by
    rcases set_get h with ⟨_, z⟩ | ⟨z, h⟩
    · cases z
    · exact let ⟨v, h1, h2⟩ := E.val j q h; ⟨v, (List.getElem?_set_ne z).trans h1, h2⟩
  own := fun j pin xs h => by
    rcases set_get h with ⟨_, z⟩ | ⟨z, h⟩
    · cases z
    · exact let ⟨b, vs, h1, h2⟩ := E.own j pin xs h; ⟨b, vs, (List.getElem?_set_ne z).trans h1, h2⟩
  dis := fun i j pi pj xs ys b h1 h2 h3 h4 => by
    rcases set_get h1 with ⟨_, z⟩ | ⟨z1, h1⟩
    · cases z
    · rcases set_get h2 with ⟨_, z⟩ | ⟨z2, h2⟩
      · cases z
      · exact E.dis i j pi pj xs ys b h1 h2 ((List.getElem?_set_ne z1).symm.trans h3) ((List.getElem?_set_ne z2).symm.trans h4)
/-! ### a lambda's body -/
def lamCxN (X : Cx) (A : Around) (outer : List Env) (s : Shared) (H : Hp) (E : XK) (scope : Scope) (f c' : Addr) : Cx :=
  (LamX.lamCx X A outer s H (fun _ _ _ => False) scope f c').wish fun e s' => wpAny (model X.prog X.w) (A.deeper (LamX.lamEnv X scope s.heap.objs.size f c')) (leaving (LamX.lamEnv X scope s.heap.objs.size f c') e)
    (fun _ s'' => L2N.CX X.prog X.w outer H s E e s'') (fun e' s'' => L2N.CX X.prog X.w outer H s E e' s'') s'
def aL (X : Cx) (scope : Scope) (body : Expr) (k : Nat) (E : XK) : TE := fun σ H Q => ∀ (A : Around) (outer : List Env) (s : Shared) (H0 : Hp) (f c' : Addr), Room k (A.deeper (LamX.lamEnv X scope s.heap.objs.size f c')) → A.guards = some [] → wE (lamCxN X A outer s H0 E scope f c') body σ H Q
def Gam.lam (G : Gam) (scope : Scope) (k : Nat) : Gam := { G with sc := scope, fn := fun _ => false, k := k, calm := true, ex := fun _ => True }
theorem Fits.lam {G : Gam} {X : Cx} (hX : Fits G X) {A : Around} {outer : List Env} {s : Shared} {H : Hp} {E : XK} {scope : Scope} {f c' : Addr} {k : Nat} (hr : Room k (A.deeper (LamX.lamEnv X scope s.heap.objs.size f c'))) (gd : A.guards = some []) :
    Fits (G.lam scope k) (lamCxN X A outer s H E scope f c') := ⟨hX.prog, hX.w, hX.K, hX.mg, hX.base, hX.N, rfl, rfl, rfl, hX.nd, gd, L2H.roomH_of hr, fun _ => hr, (fun z => by cases z), trivial⟩
theorem lam_takes {X : Cx} {A : Around} {outer : List Env} {s : Shared} {H : Hp} {E : XK} {scope : Scope} {f c' : Addr} : L2N.Takes (lamCxN X A outer s H E scope f c') (fun cls d _ H' => E cls d H') := L2N.takes_of rfl rfl rfl rfl
section
variable {X : Cx} {pins : List (Addr × Obj)} {σ : L2.St} {H : Hp} {s : Shared}
theorem pe_actN {CXg : CXT} {Eg : XK} {Ng : List Str} {qg : Str} {sg : Scope} {g f c' : Addr} {cdg pm ctv : Value} {params : Arguments} {body : Expr} {scope : Scope} {k i : Nat} {a : Str} {pn : List (Addr × Obj)} {xe : Value → Shared → Prop} {W : WX} {p1 p2 : Pos}
    (I : Inv X pins σ H s) (L : LamX.LamS X.env.scope scope) (hf : s.heap.get? f = some (PySem.W.kla_obj "<lambda>" (X.env.qual ++ "<lambda>") params body scope (cloFrom X.env.cells scope.names []) pm c' ctv)) (hfn : H f = none) (hfr : f ∉ frs X.stack)
    (hbind : bindArgs (PySem.W.kla_fn "<lambda>" (X.env.qual ++ "<lambda>") params body scope (cloFrom X.env.cells scope.names []) pm (.ref c') ctv) ⟨[], []⟩ = pure [])
    (tk : L2N.Takes ((cxOf CXg X.prog X.w X.K X.mg X.base Ng qg sg g cdg X.A X.stack s H Eg).tr pn xe) W) (hr : Room (k + 1) (X.A.deeper (envOfC qg sg s.heap.objs.size g cdg))) (gd : X.A.guards = some [])
    (hN : Ng[i]? = some a) (hv : Vis sg a) (hd : (a == ("__debug__" : Str)) = false) (hcd : (a == ("__classdict__" : Str)) = false) :
    PE ((cxOf CXg X.prog X.w X.K X.mg X.base Ng qg sg g cdg X.A X.stack s H Eg).tr pn xe) (.Call (.Name a p1) [] [] p2)
      (fun σZ HZ Q => σZ[i]? = some (some (.ref f)) ∧ HZ c' = some (LamX.CodeO c' (X.env.qual ++ "<lambda>")) ∧ aL X scope body k (WE W σZ) σ HZ Q) := ⟨fun pinsZ sZ σZ HZ Q IZ h => by
  obtain ⟨hs, hc, ht⟩ := h
  refine wpAny_Call_Name_kw (thn ((pe_var (pos := p1) (i := i) hN hv hd hcd).run pinsZ sZ σZ HZ (fun v H1 => v = .ref f ∧ H1 = HZ) IZ ⟨.ref f, hs, rfl, rfl⟩) fun u s1 z => ?_)
  obtain ⟨v, H1, I1, r1, ev, eH⟩ := z
  subst ev eH
  cases (show u = Value.ref f from r1)
  have of1 := I1.base.keep f _ hf hfn hfr (fun z => nomatch (show f ∈ ([] : List Addr) from z))
  have there : codeAny (model X.prog X.w) (X.A.deeper (envOfC qg sg s.heap.objs.size g cdg)) (.call (.ref f) ⟨[], []⟩) (CR (L2N.CX X.prog X.w) (envOfC qg sg s.heap.objs.size g cdg :: X.stack) X.prog X.w H1 s1 Q (WE W σZ)) s1 := by
    obtain ⟨⟨oc, vs, t, hoc, hdc, hvc⟩, _, _⟩ := I1.hok c' _ hc
    refine PySem.W.kla_callFunE hr.depth of1 rfl L.co L.gen rfl ⟨c', oc, vs, t, rfl, hoc, hdc, hvc⟩ ?_
    rw [hbind]
    refine wpAny_pure (wpAny_newFunctionEnv (fun y hy => (L.own y hy).2) (fun y hy => (nomatch hy)) (fun hn hns hsb => ⟨I1.nolimit.fresh _ hsb, PySem.W.kla_codeExpr ?_⟩) L.kind)
    have kp : ∀ b o, s1.heap.get? b = some o → hn.get? b = some o := fun b o e => hsb.extBut b o (Nat.ne_of_lt (Heap.lt_size e)) (Heap.get?_push_of_some _ e)
    have J0 := LamX.lam_start2 (E := fun _ _ _ => False) (c' := c') (f := f) (tk := s1.toks + ([] : List (Str × Value)).length) I L I1.env0 hr.hd I1.base hns kp
    have J : Inv (lamCxN X (X.A.deeper (envOfC qg sg s.heap.objs.size g cdg)) (envOfC qg sg s.heap.objs.size g cdg :: X.stack) s1 H1 (WE W σZ) scope f c') [] σ H1 { s1 with heap := hn, toks := s1.toks + ([] : List (Str × Value)).length } := J0.wish _
    have body := ht (X.A.deeper (envOfC qg sg s.heap.objs.size g cdg)) (envOfC qg sg s.heap.objs.size g cdg :: X.stack) s1 H1 f c' (hr.deeper _) gd
    unfold wE at body
    exact wpAny_mono (body [] _ J) (fun v s' hq => let ⟨w', H', J', rv, q⟩ := hq; ⟨w', H', J'.os, J'.bare, J'.base, J'.hok, rv, q⟩) fun _ _ hq => hq
  refine PySem.W.callWith_F0 ⟨_, _, _, _, of1⟩ (wpAny_call (codeAny_mono there fun r s' hq => ?_))
  have z := after_call (X := (cxOf CXg X.prog X.w X.K X.mg X.base Ng qg sg g cdg X.A X.stack s H Eg).tr pn xe) I1 (L2N.passAt tk σZ) hq
  cases r with
  | error _ => exact z
  | ok fl => cases fl <;> exact z⟩
end
/-! ### a def that calls what it got: f(lambda: .., word), its first clause returns True -/
structure LamF (G : Gam) (c P : Addr) (q : Str) : Prop where
  ex : ∀ X, G.ex X → X.env.code = .ref c ∧ X.env.qual = q
  tb : LamX.TabB G.base G.mg c P
  mem : (P, q ++ "<lambda>") ∈ Tb.T
  uni : ∀ p ∈ Tb.T, p.1 = P → p.2 = q ++ "<lambda>"
section
variable {G : Gam} {ρ : List Sl} {st b0 lastS : Stmt} {suite : List Stmt} {hds : List ExceptHandler} {x a wn en xn : Str} {g c P C D0 : Addr} {fd : FuncData} {q w : Str} {params : Arguments} {body : Expr} {scope : Scope} {k k2 k3 : Nat} {p1 p2 p3 np hp tp cp lpos cpos pos : Pos} {ns : List Str} {xs : List PV}
theorem ev_no (F : Fun G.K x x st g fd) (S : FnScope [a, wn, en] [a, wn] (defScope st)) (hm : G.mg x = some (.ref g)) (hb : Binds G.K fd [a, wn] [])
    (hbody : defBody st = [.Try [.Expr (.Call (.Name a p1) [] [] p2) p3] (.ExceptHandler (some (.Name xn np)) (some en) (b0 :: suite) hp :: hds) [] [] tp, lastS])
    (hxm : G.mg xn = some (.ref D0)) (hxg : (defScope st).names.lookup xn = some .globalImplicit) (hen : (defScope st).names.lookup en = some .local) (hexm : PySem.W.exmOne G.K (.ref C) (.ref D0) = some true) (hva : Vis (defScope st) a)
    (hsu : ∀ a' d', SS ((gam G.P G.w G.K G.mg G.base [a, wn, en] st (k + 1) true).suite a' C d') [.no, .val (.str w), .val (.exc a' C d' ns xs)] (b0 :: suite) (.rt (.bl true)))
    (LF : LamF G c P q) (hc : G.calm = true) (hk : k + 2 ≤ G.k) (L : LamX.LamS G.sc scope) (hx : EX (G.lam scope k) ρ body C ns xs)
    (hg : G.sc.names.lookup x = some .globalImplicit := by first | rfl | decide +kernel)
    (hdef : ∀ env, defaultsOf params env = ([], []) := by intro _; rfl) (hbind : ∀ (q : Str) (cl : List (Str × Addr)) (pm cv ctv : Value), bindArgs (PySem.W.kla_fn "<lambda>" q params body scope cl pm cv ctv) ⟨[], []⟩ = pure [] := by intro _ _ _ _ _; rfl)
    (hxd : (xn == ("__debug__" : Str)) = false := by decide) (hdb : (x == ("__debug__" : Str)) = false := by decide) (hd : (a == ("__debug__" : Str)) = false := by decide) (hcd : (a == ("__classdict__" : Str)) = false := by decide)
    (hsw : ∀ env, swapsWith (.Call (.Name a p1) [] [] p2) none p3.line env = pure false := by intro _; rfl) :
    EV G ρ (.Call (.Name x cp) [.Lambda params body scope lpos, .Constant (.str w) k2 cpos] [] pos) (.bl true) := by
  intro X hX U B σ H Q E q0
  obtain ⟨hcode, hqual⟩ := LF.ex X hX.ex
  have TB : LamX.TabB X.base X.mg c P := by rw [hX.base, hX.mg]; exact LF.tb
  have L' : LamX.LamS X.env.scope scope := by rw [hX.sc]; exact L
  have rX := hX.room hc
  unfold wE
  intro pins s I
  refine wpAny_Call_Name_kw (ld_glob I (hX.gl hg) (by rw [hX.mg]; exact hm) ?_ hdb)
  refine PySem.W.callWith_K (h₀ := X.base) I.ok.mod.kin (by rw [hX.K]; exact F.kp) ?_ (by rfl) (by rfl)
  show wpAny _ _ (spliced ((false, eval (.Lambda params body scope lpos) X.env) :: [(false, eval (.Constant (.str w) k2 cpos) X.env)])) _ _ s
  refine Calls.spliced_cons (LamX.lam_make2 (T := Tb.T) I TB hcode (by rw [hqual]; exact LF.mem) (fun p hp e => by rw [hqual]; exact LF.uni p hp e) E.tabs (hdef X.env) (L'.has I.ok) fun f c' pm' ctv H1 s1 I1 eN T1 hf hfn hfr hco => ?_)
  refine Calls.spliced_cons (Calls.Constant_str (Calls.spliced_nil ?_))
  have I2 : Inv X pins σ H1 { s1 with toks := s1.toks + 1 } := I1.tok _
  refine ⟨I2.kIn, ?_⟩
  have ex1 : Ex H H1 := ⟨eN, fun _ => T1⟩
  obtain ⟨oc, od, kV, doc, pm, an, cdv, ct, osl, efd, lk, hcd1⟩ := F.ex
  subst efd
  have there : codeAny (model X.prog X.w) X.A (.call (.ref g) ⟨[.ref f, .str w s1.toks], []⟩) (CR (L2N.CX X.prog X.w) X.stack X.prog X.w H1 { s1 with toks := s1.toks + 1 } Q (fun _ _ _ => False)) { s1 with toks := s1.toks + 1 } := by
    have bnd := hb { s1 with toks := s1.toks + 1 } [.ref f, .str w s1.toks] (by rw [← hX.K]; exact I2.kIn) rfl
    refine LamX.run_ofS (N := [a, wn, en]) (ps := [a, wn]) (us := [.ref f, .str w s1.toks]) (vs := [.ref f, .str w]) (by rw [hX.K]; exact lk) (by rw [hX.K]; exact hcd1) S (rX.mono (show (k + 1) + 1 ≤ G.k from hk)) I2.env0 bnd (.cons rfl (.cons ⟨s1.toks, rfl⟩ .nil)) rfl fun hr' => ?_
    generalize hZ : cxOf (L2N.CX X.prog X.w) X.prog X.w X.K X.mg X.base [a, wn, en] x (defScope st) g cdv X.A X.stack { s1 with toks := s1.toks + 1 } H1 (fun _ _ _ => False) = Z
    have fZ : Fits (gam G.P G.w G.K G.mg G.base [a, wn, en] st (k + 1) true) Z := by
      subst hZ
      exact ⟨hX.prog, hX.w, hX.K, hX.mg, hX.base, rfl, rfl, rfl, rfl, S.nd, hX.gd, L2H.roomH_of hr', fun _ => hr', (fun z => by cases z), trivial⟩
    refine ⟨_, by
      rw [hbody]
      refine pss_cons (ps_try_as1 (X := Z) (i := 2) (c := .ref D0) (tb := fun W D σZ HZ => σZ[0]? = some (some (.ref f)) ∧ HZ c' = some (LamX.CodeO c' (X.env.qual ++ "<lambda>")) ∧ aL X scope body k (WE W σZ) σ HZ (fun _ H' => D.nx σZ H')) (ts := fun a cls d => wSuite Z (b0 :: suite) a cls d)
        (by subst hZ; rfl) (by subst hZ; rfl) (by subst hZ; exact S.nd) (by subst hZ; rfl) (by show Z.env.scope.names.lookup en = _; rw [fZ.sc]; exact hen) ⟨fZ.gl hxg, hxd, .inl (by rw [fZ.mg]; exact hxm)⟩ (fun W pn xe tk po => ?_)
        (fun a oe cls d pn hzn hvs => ⟨fun pins s σ H D I q => pss_w.run pins s σ H D I (q oe pn hzn hvs)⟩)) (u := fun _ _ _ => False) ⟨fun _ _ _ _ _ _ z => z.elim⟩
      subst hZ
      exact pss_one (ps_expr (pe_actN (i := 0) I2 L' hf hfn hfr (hbind _ _ _ _ _) tk hr' hX.gd rfl hva hd hcd) (hsw _)), ?_⟩
    have R0 : EnvR G.K ⟨B, H1, []⟩ B H1 (L2.start [a, wn, en] [.ref f, .str w]) [.no, .val (.str w), .no] := by
      have Z0 : EnvR G.K ⟨B, H1, []⟩ B H1 (L2.start [a, wn, en] [.non, .str w]) (start0 3 [.non, .str w]) := start_env (.non (.str .nil)) (E.mono ex1).trk T1
      exact Z0.put (n := 0) (x := some (.ref f))
    refine ⟨by subst hZ; rfl, hco, fun A outer s0 H0 f' c'' hr2 gd2 => ?_⟩
    refine hx _ (hX.lam hr2 gd2) _ lam_takes U B σ H1 _ (E.mono ex1) fun d ws H' e' h1 h2 h3 => ?_
    refine ⟨by rw [← hZ]; show PySem.W.exmOne X.K _ _ = _; rw [hX.K]; exact hexm, fun a' na' oe pn hzn hvs => ?_⟩
    have R1 := (R0.mono e').set (i := 2) (v := .ref a') (p := .exc a' C d ns xs) (.exc h1 h2 h3 .nil)
    refine hsu a' d _ (fun _ _ _ _ => False) (suite_fits fZ hzn hvs) ⟨fun u s' qq => ?_, PassesOwn.never, by subst hZ; rfl, by subst hZ; rfl⟩ ⟨B, H1, []⟩ B _ H' _ R1 fun v H'' e2 r2 => ?_
    · obtain ⟨_, _, _, _, _, _, _, _, _, _, _, _, _, _, _, _, zz⟩ := qq
      exact zz.elim
    · exact q0 v H'' (ex1.trans e2) r2
  refine wpAny_call (codeAny_mono there fun r s' hq => ?_)
  have z := after_call (pins := pins) (σ := σ) I2 pass0H hq
  cases r with
  | error _ => exact z
  | ok fl => cases fl <;> exact z
end
end VL
namespace VL
open PySem PySem.Spec PyProof.Rows L2
variable [Tb]
section
variable {G : Gam} {ρ ρ1 : List Sl} {a b c e : Expr} {pos p1 p2 p3 p4 : Pos} {i j : Int} {p q r : PV} {n m l : Nat} {x y z : Str} {xs zs : List PV} {pin : Option Addr} {kt k2 : Nat}
theorem ev_pow (ha : EV G ρ a (.int i)) (hb : EV G ρ b (.int j)) (hc : CPow i j) : EV G ρ (.BinOp a .Pow b pos) (.int (i ^ j.toNat)) :=
  ev_op (fun _ _ => op_pow) ha hb fun B v w H Q r1 r2 k => ⟨i, j, vr_int r1, vr_int r2, hc, k _ _ (Ex.refl H) .i⟩
theorem sv_par3M (hc : G.calm = true) (hi : G.N[n]? = some x) (hj : G.N[m]? = some y) (hl : G.N[l]? = some z) (hij : n ≠ m) (hil : n ≠ l) (hjl : m ≠ l) (hx : G.sc.names.lookup x = some .local) (hy : G.sc.names.lookup y = some .local) (hz : G.sc.names.lookup z = some .local) (ha : AM G ρ [a, b, c] [p, q, r] ρ1)
    (hw : ∀ env : Env, env.scope = G.sc → swappedStores [.Tuple [.Name x p1, .Name y p2, .Name z p3] kt p4] (.Tuple [a, b, c] k2 pt2) env = pure (some [x, y, z]))
    (hs : ∀ env, swapsWithSole [.Tuple [.Name x p1, .Name y p2, .Name z p3] kt p4] (.Tuple [a, b, c] k2 pt2) pos.line env = pure false := by intro _; rfl) :
    SV G ρ (.Assign [.Tuple [.Name x p1, .Name y p2, .Name z p3] kt p4] (.Tuple [a, b, c] k2 pt2) pos) (.nx (((ρ1.set n (.val p)).set m (.val q)).set l (.val r))) := fun X E hX hA U B σ H D R hD =>
  of_ps (ps_par3 (i := n) (j := m) (l := l) (by rw [hX.calm]; exact hc) (by rw [hX.N]; exact hX.nd) (by rw [hX.N]; exact hi) (by rw [hX.N]; exact hj) (by rw [hX.N]; exact hl) hij hil hjl (by rw [hX.sc]; exact hx) (by rw [hX.sc]; exact hy) (by rw [hX.sc]; exact hz) pa_w (hw X.env hX.sc) (hs X.env))
    (ha X hX _ _ _ _ _ R fun vs H1 E1 r1 k1 => by
      have len := r1.length
      match vs, len, r1 with
      | [u, v, w], _, r1 => exact ⟨u, v, w, rfl, hD B _ H1 (((E1.set r1.head).set r1.tail.head).set r1.tail.tail.head)⟩)
theorem am_av {es : List Expr} {ps : List PV} (h : AV G ρ es ps) : AM G ρ es ps ρ := fun X hX U B σ H Q E q => h X hX _ _ _ _ _ E fun vs H1 e1 r1 => q vs H1 (E.mono e1) r1 fun _ _ r => r.ext e1
theorem sv_par3 (hc : G.calm = true) (hi : G.N[n]? = some x) (hj : G.N[m]? = some y) (hl : G.N[l]? = some z) (hij : n ≠ m) (hil : n ≠ l) (hjl : m ≠ l) (hx : G.sc.names.lookup x = some .local) (hy : G.sc.names.lookup y = some .local) (hz : G.sc.names.lookup z = some .local) (ha : AV G ρ [a, b, c] [p, q, r])
    (hw : ∀ env : Env, env.scope = G.sc → swappedStores [.Tuple [.Name x p1, .Name y p2, .Name z p3] kt p4] (.Tuple [a, b, c] k2 pt2) env = pure (some [x, y, z]))
    (hs : ∀ env, swapsWithSole [.Tuple [.Name x p1, .Name y p2, .Name z p3] kt p4] (.Tuple [a, b, c] k2 pt2) pos.line env = pure false := by intro _; rfl) :
    SV G ρ (.Assign [.Tuple [.Name x p1, .Name y p2, .Name z p3] kt p4] (.Tuple [a, b, c] k2 pt2) pos) (.nx (((ρ.set n (.val p)).set m (.val q)).set l (.val r))) := sv_par3M hc hi hj hl hij hil hjl hx hy hz (am_av ha) hw hs
/-! ### defs that return a new list -/
end
abbrev RelN := List PV → List PV → Prop
def spN (K : PySem.W.Frag) (n : Nat) (R : RelN) : Sp := fun vs H Q E => LamX.Tabs Tb.T H ∧ ∃ (args xs : List PV) (B : Bd), VRs K H B vs args ∧ (∀ b, B b → Kn H b) ∧ args.length = n ∧ R args xs ∧ ∀ l us H', Ex H H' → Fr H l → H' l = some (.lst us) → VRs K H' (fun a => B a ∨ a = l) us xs → Q (.ref l) H'
def FnVN (P : Program) (w : World) (K : PySem.W.Frag) (mg : Str → Option Value) (base : Heap) (k : Nat) (x : Str) (ps : List Str) (R : RelN) : Prop :=
  ∃ f fd, mg x = some (.ref f) ∧ PySem.W.keepIn K (.ref f) = true ∧ FnG P w K mg base (L2N.CX P w) k f fd ps (spN K ps.length R) ∧ Binds K fd ps []
abbrev Gam.FnN (G : Gam) (k : Nat) (x : Str) (ps : List Str) (R : RelN) : Prop := FnVN G.P G.w G.K G.mg G.base k x ps R
theorem spN_len {K : PySem.W.Frag} {n : Nat} {R : RelN} : ∀ vs H Q E, spN K n R vs H Q E → vs.length = n := fun vs H Q E h => by
  obtain ⟨_, args, xs, B, r, _, hl, _⟩ := h
  exact r.length.trans hl
theorem fn_defN {P : Program} {w : World} {K : PySem.W.Frag} {mg : Str → Option Value} {base : Heap} {x : Str} {st : Stmt} {f : Addr} {fd : FuncData} {N ps : List Str} {k : Nat} {R : RelN} (F : Fun K x x st f fd) (S : FnScope N ps (defScope st)) (hm : mg x = some (.ref f)) (hb : Binds K fd ps [])
    (body : ∀ args xs, R args xs → args.length = ps.length → SS (gam P w K mg base N st k true) (start0 N.length args) (defBody st) (.rtn xs)) : FnVN P w K mg base (k + 1) x ps R := by
  refine ⟨f, fd, hm, F.kp, ?_, hb⟩
  obtain ⟨oc, od, kV, doc, pm, an, cdv, ct, osl, rfl, lk, hcd⟩ := F.ex
  refine fnG_of lk hcd S spN_len fun A outer s H vs Q E gd hr hsp => ?_
  obtain ⟨tt, args, xs, B, rs, tr, hl, hR, q⟩ := hsp
  exact ⟨_, pss_w, body args xs hR hl _ (fun c d _ H => E c d H) ⟨rfl, rfl, rfl, rfl, rfl, rfl, rfl, rfl, rfl, S.nd, gd, L2H.roomH_of hr, fun _ => hr, (fun z => by cases z), trivial⟩ ⟨L2N.takes_of rfl rfl rfl rfl, passes_of rfl, rfl, rfl⟩ _ _ _ _ _ (start_env rs tr tt) q⟩
section
variable {G : Gam} {ρ ρ1 : List Sl} {a b c e : Expr} {es : List Expr} {pos p1 p2 p3 p4 : Pos} {i j : Int} {p q r : PV} {n m l k : Nat} {x y z f : Str} {ps : List Str} {xs zs args : List PV} {pin : Option Addr} {kt k2 : Nat}
theorem sv_retN (he : NV G ρ e xs) : SV G ρ (.Return (some e) pos) (.rtn xs) := fun X E hX hA U B σ H D R h =>
  of_ps (ps_ret pe_w) (he X hX _ _ _ _ _ R fun l vs H1 e1 n1 hl rs => h l vs H1 (R.ex.trans e1) (R.gone n1) hl (rs.anti fun a z => z.imp (R.up a) id))
theorem nv_call {R : RelN} (F : G.FnN k f ps R) (hc : G.calm = true) (hk : k ≤ G.k) (ha : AV G ρ (e :: es) args) (hR : R args xs) (hl : args.length = ps.length) (hg : G.sc.names.lookup f = some .globalImplicit := by first | rfl | decide +kernel) (hd : (f == ("__debug__" : Str)) = false := by decide)
    (hs : ∀ env, starEach (e :: es) env = (false, eval e env) :: starEach es env := by intro _; rfl) (hpl : ∀ env, (backTo pos (starEach es env)).any (·.1) = false := by intro _; rfl) : NV G ρ (.Call (.Name f p1) (e :: es) [] pos) xs := by
  obtain ⟨g, fd, hm, hkp, F, hb⟩ := F
  intro X hX U B σ H Q E q
  have F' : FnG X.prog X.w X.K X.mg X.base (L2N.CX X.prog X.w) k g fd ps (spN G.K ps.length R) := by rw [hX.prog, hX.w, hX.K, hX.mg, hX.base]; exact F
  refine of_pe (pe_callG (E := fun _ _ _ _ => False) F' ((hX.room hc).mono hk) hX.gd (hX.gl hg) (by rw [hX.mg]; exact hm) (by rw [hX.K]; exact hkp) (by rw [hX.K]; exact hb) (fun _ => pass0H) pa_w hd (hs X.env) (hpl X.env)) ?_
  refine ha X hX _ _ _ _ _ E fun vs H1 e1 rs => ?_
  exact ⟨(E.mono e1).tabs, args, xs, B, rs, (E.mono e1).trk, hl, hR, fun l us H2 e2 n2 h2 r2 => q l us H2 (e1.trans e2) (VL.fresh_back e1 n2) h2 r2⟩
/-- x.extend(e), e a new list -/
theorem sv_extend (hi : G.N[n]? = some z) (hv : Vis G.sc z) (hn : ρ[n]? = some (.ow pin xs)) (he : NV G ρ e zs) (hl : xs.length + zs.length ≤ 100000) (hd : (z == ("__debug__" : Str)) = false := by decide) (hcd : (z == ("__classdict__" : Str)) = false := by decide)
    (hs : ∀ env, starEach [e] env = [(false, eval e env)] := by intro _; rfl) (hbase : ∀ env, attributeBase (.Name z p1) "extend" env (eval (.Name z p1) env) = eval (.Name z p1) env := by intro _; rfl) (hline : (p2.endLine == p3.line) = true := by rfl) :
    SV G ρ (.Expr (.Call (.Attribute (.Name z p1) "extend" p2) [e] [] p3) pos) (.nx (ρ.set n (.ow pin (xs ++ zs)))) := fun X E hX hA U B σ H D R h => by
  obtain ⟨l, vs, h1, h2, h3, h4, h5, h6⟩ := R.own n pin xs hn
  have few : ((backTo p3 (starEach [e] X.env)).all (fun x => !x.1) && (backToKw p3 (keywordEach [] X.env)).all (fun x => x.1.isSome) && decide ([e].length + ([] : List Keyword).length + (if ([] : List Keyword).isEmpty then 0 else 1) < 30)) = true := by rw [hs X.env]; rfl
  refine of_ps (ps_expr (pe_bm PySem.F.plainAttrs_list PySem.F.slot_list_extend PySem.F.type_list_extend mt_extend (pe_var (i := n) (by rw [hX.N]; exact hi) (by rw [hX.sc]; exact hv) hd hcd) (pa_cons pe_w pa_nil (hs X.env)) (hbase X.env) few hline (hs X.env) rfl)) ?_
  refine ⟨_, h1, .inl ⟨rfl, _, Evl.sq_of h2⟩, he X hX _ _ _ _ _ R fun b ws H1 e1 nb hb rs => ?_⟩
  have h2' := e1.lst h2
  refine ⟨l, b, vs, ws, rfl, rfl, h2', hb, Evl.sz_of (by rw [h5.length, rs.length]; exact hl), h B σ _ ((R.mono e1).mutOwn hn h1 h2' ((h5.ext e1).append (rs.anti fun _ z => .inl z)))⟩
end
end VL
namespace K01
open PySem PySem.Spec PyProof.Rows L2 VL
variable [Tb]
def topS (i : Nat) : Stmt := PySem.Challenge.pw_evenlater_k01_whole_moves_and_beats.main.body.getD i (.Pass ⟨0, 0, 0, 0⟩)
/-- what the module's names hold -/
structure Bt (mg : Str → Option Value) : Prop where
  len : mg "len" = none
  int : mg "int" = none
  tuple : mg "tuple" = none
  all : mg "all" = none
  range : mg "range" = none
  isinstance : mg "isinstance" = none
  bool : mg "bool" = none
  repr : mg "repr" = none
/-! ### the mathematics -/
def mult (fs : List Int) : Int := fs.foldl (fun p f => p * f) 1
theorem mult_from (fs : List Int) : ∀ (u : Int), fs.foldl (fun p f => p * f) u = u * mult fs := by
  unfold mult
  induction fs with
  | nil => intro u; simp
  | cons f fs ih =>
    intro u
    simp only [List.foldl_cons]
    rw [ih, ih (1 * f), Int.one_mul, Int.mul_assoc]
theorem mult_cons (f : Int) (fs : List Int) : mult (f :: fs) = f * mult fs := by
  have h := mult_from fs (1 * f)
  rw [Int.one_mul] at h
  unfold mult
  rw [List.foldl_cons, Int.one_mul]
  exact h
theorem mult_nil : mult [] = 1 := rfl
abbrev Clk := Int × List (Int × Int)
def clkV (c : Clk) : PV := .tup [.int c.1, .tup (c.2.map pr)]
def turnsIn (c : Clk) : Int := mult (c.2.map (·.1))
def rootsIn (c : Clk) : Int := mult (c.2.map (·.2))
def sizeIn (c : Clk) : Int := c.1 * turnsIn c
def fac (c : Clk) (t : Nat) : Int := rootsIn c ^ t % c.1
structure OKc (c : Clk) : Prop where
  b1 : 1 ≤ c.1
  b2 : c.1 ≤ 60
  m : ∀ m ∈ c.2, (2 ≤ m.1 ∧ m.1 ≤ 60) ∧ 1 ≤ m.2 ∧ m.2 ≤ 60
  l : c.2.length ≤ 60
  t1 : 1 ≤ turnsIn c
  t2 : turnsIn c ≤ 60
  s : sizeIn c ≤ 60
  rt : ∀ m ∈ c.2, m.2 ^ m.1.toNat % c.1 = 1 % c.1
/-- a move -/
structure Mv (c : Clk) (z : Int × Int) : Prop where
  x1 : 0 ≤ z.1
  x2 : z.1 < c.1
  t1 : 0 ≤ z.2
  t2 : z.2 < turnsIn c
def beatA (c : Clk) (z : Int × Int) (b : Int) : Int := (fac c z.2.toNat * b + z.1) % c.1
def joinM (c : Clk) (z w : Int × Int) : Int × Int := (beatA c w z.1, (z.2 + w.2) % turnsIn c)
def negT (c : Clk) (t : Int) : Int := (-t) % turnsIn c
def backM (c : Clk) (z : Int × Int) : Int × Int := ((-fac c (negT c z.2).toNat * z.1) % c.1, negT c z.2)
def turnedM (c : Clk) (z w : Int × Int) : Int × Int := ((fac c w.2.toNat * z.1 + (1 - fac c z.2.toNat) * w.1) % c.1, z.2)
def walkM (c : Clk) (z : Int × Int) : Nat → Int × Int
  | 0 => (0, 0)
  | n + 1 => joinM c (walkM c z n) z
def timesM (c : Clk) (z : Int × Int) (many : Int) : Int × Int := walkM c z (many % sizeIn c).toNat
def movesC (c : Clk) : List (Int × Int) := (span 0 (turnsIn c)).flatMap fun t => (span 0 c.1).map fun x => (x, t)
theorem mul_cong {n a a' b b' : Int} (h1 : a % n = a' % n) (h2 : b % n = b' % n) : a * b % n = a' * b' % n := by rw [Int.mul_emod, h1, h2, ← Int.mul_emod]
theorem add_cong {n a a' b b' : Int} (h1 : a % n = a' % n) (h2 : b % n = b' % n) : (a + b) % n = (a' + b') % n := by rw [Int.add_emod, h1, h2, ← Int.add_emod]
theorem pow_cong {n a b : Int} (h : a % n = b % n) : ∀ k : Nat, a ^ k % n = b ^ k % n
  | 0 => by rw [Int.pow_zero, Int.pow_zero]
  | k + 1 => by rw [Int.pow_succ, Int.pow_succ]; exact mul_cong (pow_cong h k) h
theorem sq_pow (s : Int) : ∀ k : Nat, (s * s) ^ k = s ^ (2 * k)
  | 0 => by simp
  | k + 1 => by
    rw [Int.pow_succ, sq_pow s k, show 2 * (k + 1) = 2 * k + 1 + 1 by omega, Int.pow_succ, Int.pow_succ, Int.mul_assoc]
theorem fac_b {c : Clk} (h : OKc c) (t : Nat) : 0 ≤ fac c t ∧ fac c t < c.1 := ⟨Int.emod_nonneg _ (by have := h.b1; omega), Int.emod_lt_of_pos _ (by have := h.b1; omega)⟩
theorem emod_b {a n : Int} (h : 1 ≤ n) : 0 ≤ a % n ∧ a % n < n := ⟨Int.emod_nonneg _ (by omega), Int.emod_lt_of_pos _ (by omega)⟩
theorem join_mv {c : Clk} (h : OKc c) (z w : Int × Int) : Mv c (joinM c z w) := by
  have h1 := emod_b (a := fac c w.2.toNat * z.1 + w.1) h.b1
  have h2 := emod_b (a := z.2 + w.2) h.t1
  exact ⟨h1.1, h1.2, h2.1, h2.2⟩
theorem back_mv {c : Clk} (h : OKc c) (z : Int × Int) : Mv c (backM c z) := by
  have h1 := emod_b (a := -fac c (negT c z.2).toNat * z.1) h.b1
  have h2 := emod_b (a := -z.2) h.t1
  exact ⟨h1.1, h1.2, h2.1, h2.2⟩
theorem idle_mv {c : Clk} (h : OKc c) : Mv c (0, 0) := ⟨by decide, by have := h.b1; show (0 : Int) < c.1; omega, by decide, by have := h.t1; show (0 : Int) < turnsIn c; omega⟩
theorem walk_mv {c : Clk} (h : OKc c) (z : Int × Int) : ∀ n, Mv c (walkM c z n)
  | 0 => idle_mv h
  | n + 1 => join_mv h _ _
theorem turned_mv {c : Clk} (h : OKc c) {z w : Int × Int} (hz : Mv c z) : Mv c (turnedM c z w) := by
  have h1 := emod_b (a := fac c w.2.toNat * z.1 + (1 - fac c z.2.toNat) * w.1) h.b1
  exact ⟨h1.1, h1.2, hz.t1, hz.t2⟩
theorem size_b {c : Clk} (h : OKc c) : 1 ≤ sizeIn c ∧ sizeIn c ≤ 60 := by
  refine ⟨?_, h.s⟩
  have := Int.mul_le_mul h.b1 h.t1 (by omega) (by have := h.b1; omega)
  show 1 ≤ c.1 * turnsIn c
  simpa using this
/-! ### kinds of values -/
def isIntV : PV → Bool
  | .int _ => true
  | _ => false
def isNumV : PV → Bool
  | .int i => decide (0 ≤ i)
  | _ => false
def isBelV (m : Int) : PV → Bool
  | .int i => decide (0 ≤ i) && decide (i < m)
  | _ => false
def isPairV : PV → Bool
  | .tup xs => decide ((xs.length : Int) = 2)
  | _ => false
def isMoveV (c : Clk) : PV → Bool
  | .tup [x, y] => isBelV c.1 x && isBelV (turnsIn c) y
  | _ => false
/-- no caught error in it, on two levels -/
def Fine (p : PV) : Prop := p.ty ≠ "?" ∧ ∀ xs, p = .tup xs → ∀ x ∈ xs, x.ty ≠ "?"
theorem bel_shape {m : Int} {p : PV} (h : isBelV m p = true) : ∃ i, p = .int i ∧ 0 ≤ i ∧ i < m := by
  cases p with
  | int i =>
    obtain ⟨h1, h2⟩ := Bool.and_eq_true_iff.mp h
    exact ⟨i, rfl, of_decide_eq_true h1, of_decide_eq_true h2⟩
  | _ => cases h
theorem move_shape {c : Clk} {p : PV} (h : isMoveV c p = true) : ∃ z, p = pr z ∧ Mv c z := by
  unfold isMoveV at h
  split at h
  · obtain ⟨h1, h2⟩ := Bool.and_eq_true_iff.mp h
    obtain ⟨i, rfl, a1, a2⟩ := bel_shape h1
    obtain ⟨j, rfl, b1, b2⟩ := bel_shape h2
    exact ⟨(i, j), rfl, a1, a2, b1, b2⟩
  · cases h
theorem move_yes {c : Clk} {z : Int × Int} (h : Mv c z) : isMoveV c (pr z) = true := by
  show (isBelV c.1 (.int z.1) && isBelV (turnsIn c) (.int z.2)) = true
  simp [isBelV, h.x1, h.x2, h.t1, h.t2]
theorem bel_yes {m i : Int} (h1 : 0 ≤ i) (h2 : i < m) : isBelV m (.int i) = true := by simp [isBelV, h1, h2]
theorem fine_int (i : Int) : Fine (.int i) := ⟨by show ("int" : String) ≠ "?"; decide, fun xs e => by cases e⟩
theorem fine_pr (z : Int × Int) : Fine (pr z) := by
  refine ⟨show ("tuple" : String) ≠ "?" by decide, fun xs e x hx => ?_⟩
  cases e
  rcases List.mem_cons.mp hx with h | h
  · subst h; exact show ("int" : String) ≠ "?" by decide
  · rcases List.mem_cons.mp h with h | h
    · subst h; exact show ("int" : String) ≠ "?" by decide
    · cases h
/-! ### defs as they stand -/
section
variable {P : Program} {w : World} {K : PySem.W.Frag} {mg : Str → Option Value} {base : Heap} {C : Addr}
structure At (K : PySem.W.Frag) (mg : Str → Option Value) (x : Str) (i : Nat) (ps : List Str) : Prop where
  ex : ∃ f fd, Fun K x x (topS i) f fd ∧ mg x = some (.ref f) ∧ Binds K fd ps []
abbrev Bod (P : Program) (w : World) (K : PySem.W.Frag) (mg : Str → Option Value) (base : Heap) (N : List Str) (i k : Nat) (ps : List Str) (R : Rel) : Prop := ∀ args r, R args r → args.length = ps.length → ∃ out, Ends1 r out ∧ SS (gam P w K mg base N (topS i) k true) (start0 N.length args) (defBody (topS i)) out
theorem fn_at {x : Str} {i : Nat} {N ps : List Str} {k : Nat} {R : Rel} (A : At K mg x i ps) (S : FnScope N ps (defScope (topS i))) (body : Bod P w K mg base N i k ps R) : FnV P w K mg base (k + 1) x ps R := by
  obtain ⟨f, fd, F, hm, hb⟩ := A.ex
  exact fn_def F S hm hb body
structure AtK (K : PySem.W.Frag) (mg : Str → Option Value) (x : Str) (i : Nat) (ps ks : List Str) (rev : Bool) : Prop where
  ex : ∃ f fd, Fun K x x (topS i) f fd ∧ mg x = some (.ref f) ∧ ∀ (s : Shared) (ws : List Value), K.In s.heap → ws.length = ps.length → BindsTo s fd ⟨[], ks.zip ws⟩ (ps.zip (if rev then ws.reverse else ws))
theorem fn_atK {x : Str} {i : Nat} {N ps ks : List Str} {rev : Bool} {k : Nat} {R : Rel} (A : AtK K mg x i ps ks rev) (S : FnScope N ps (defScope (topS i))) (body : Bod P w K mg base N i k ps R) : FnVK P w K mg base (k + 1) x ps ks rev R := by
  obtain ⟨f, fd, F, hm, hb⟩ := A.ex
  exact ⟨f, fd, hm, F.kp, fn_def_ok F S body, hb⟩
abbrev badR (C : Addr) (z : Str) : Res := .exc C ["at", "word"] [.int (-1), .str z]
/-! ### multiplied, power_modulo -/
abbrev nMult : List Str := ["factors", "product", "factor"]
theorem scMult : FnScope nMult ["factors"] (defScope (topS 1)) := ⟨rfl, rfl, rfl, by decide +kernel, rfl, by decide +kernel, by decide +kernel⟩
abbrev R_mult : Rel := fun args r => ∃ fs : List Int, (∀ f ∈ fs, -(2 ^ 64) < f ∧ f < 2 ^ 64) ∧ args = [.lst (fs.map PV.int)] ∧ r = .ok (.int (mult fs))
theorem fn_mult (A : At K mg "multiplied" 1 ["factors"]) : FnV P w K mg base 1 "multiplied" ["factors"] R_mult := by
  refine fn_at A scMult fun args r h hl => ?_
  obtain ⟨fs, hf, rfl, rfl⟩ := h
  have loop : ∀ (L : PV) (ps : List Int) (u : Int) (s : Sl), (∀ f ∈ ps, -(2 ^ 64) < f ∧ f < 2 ^ 64) → ∃ s', LoopV (gam P w K mg base nMult (topS 1) 0 true) (.one 2) (forBody (nthS (defBody (topS 1)) 1)) (ps.map PV.int) [.val L, .val (.int u), s] (.nx [.val L, .val (.int (ps.foldl (fun p f => p * f) u)), s']) := by
    intro L ps
    induction ps with
    | nil => exact fun u s _ => ⟨s, .nil⟩
    | cons p ps ih =>
      intro u s hp
      have h1 := hp p List.mem_cons_self
      obtain ⟨s', hL⟩ := ih (u * p) (.val (.int p)) fun q hq => hp q (List.mem_cons_of_mem _ hq)
      exact ⟨s', .next trivial (ss_one (sv_set (n := 1) rfl (.inl rfl) (ev_mul (v 1) (v 2) (.inr h1)))) hL⟩
  obtain ⟨s', hL⟩ := loop (.lst (fs.map PV.int)) fs 1 .no hf
  exact ⟨_, .rt, ss_cons (sv_set (n := 1) rfl (.inl rfl) ev_int) (ss_cons (sv_for rfl (iv_list (v 0)) (bv_one rfl (.inl rfl)) hL) (ss_one (sv_ret (v 1))))⟩
abbrev nPow : List Str := ["base", "many", "modulus", "result", "square", "rest"]
abbrev pPow : List Str := ["base", "many", "modulus"]
theorem scPow : FnScope nPow pPow (defScope (topS 2)) := ⟨rfl, rfl, rfl, by decide +kernel, rfl, by decide +kernel, by decide +kernel⟩
abbrev R_pow : Rel := fun args r => ∃ (b : Int) (t : Nat) (m : Int), 1 ≤ m ∧ m ≤ 100 ∧ t < 2 ^ 60 ∧ args = [.int b, .int t, .int m] ∧ r = .ok (.int (b ^ t % m))
theorem fn_pow (A : At K mg "power_modulo" 2 pPow) : FnV P w K mg base 1 "power_modulo" pPow R_pow := by
  refine fn_at A scPow fun args r h hl => ?_
  obtain ⟨b, t, m, hm1, hm2, ht, rfl, rfl⟩ := h
  have loop : ∀ (n t : Nat) (x y : Int), t ≤ n → t < 2 ^ 60 → (0 ≤ x ∧ x < m) → (0 ≤ y ∧ y < m) → ∀ B T : PV, ∃ s1 s2, WhileV (gam P w K mg base nPow (topS 2) 0 true) (match nthS (defBody (topS 2)) 1 with | .While c _ _ _ => c | _ => .Constant .none 0 ⟨0, 0, 0, 0⟩) (forBody (nthS (defBody (topS 2)) 1)) n
      [.val B, .val T, .val (.int m), .val (.int x), .val (.int y), .val (.int (t : Int))] (.nx [.val B, .val T, .val (.int m), .val (.int (x * y ^ t % m)), s1, s2]) := by
    intro n
    induction n with
    | zero =>
      intro t x y hn _ hx hy B T
      obtain rfl : t = 0 := by omega
      refine ⟨.val (.int y), .val (.int ((0 : Nat) : Int)), ?_⟩
      rw [show x * y ^ 0 % m = x by rw [Int.pow_zero, Int.mul_one]; exact Int.emod_eq_of_lt hx.1 hx.2]
      exact .stop (TV.to (cv_gt (v 5) ev_int).tv (by rfl))
    | succ n ih =>
      intro t x y hn ht hx hy B T
      by_cases h0 : t = 0
      · subst h0
        refine ⟨.val (.int y), .val (.int ((0 : Nat) : Int)), ?_⟩
        rw [show x * y ^ 0 % m = x by rw [Int.pow_zero, Int.mul_one]; exact Int.emod_eq_of_lt hx.1 hx.2]
        exact .stop (TV.to (cv_gt (v 5) ev_int).tv (by rfl))
      · have hy2 := emod_b (a := y * y) hm1
        have h2 : ((t / 2 : Nat) : Int) = (t : Int) / 2 := by omega
        have hpow : (y * y % m) ^ (t / 2) % m = y ^ (2 * (t / 2)) % m := by rw [← sq_pow]; exact pow_cong (Int.emod_emod_of_dvd _ (Int.dvd_refl m)) _
        by_cases ho : (t : Int) % 2 = 1
        · have hxy := emod_b (a := x * y) hm1
          obtain ⟨s1, s2, hL⟩ := ih (t / 2) (x * y % m) (y * y % m) (by omega) (by omega) hxy hy2 B T
          have e : x * y % m * (y * y % m) ^ (t / 2) % m = x * y ^ t % m := by
            rw [mul_cong (a' := x * y) (Int.emod_emod_of_dvd _ (Int.dvd_refl m)) hpow, Int.mul_assoc]
            congr 2
            have ho' : t % 2 = 1 := by omega
            conv => rhs; rw [show t = 2 * (t / 2) + 1 by omega, Int.pow_succ, Int.mul_comm]
          rw [e] at hL
          refine ⟨s1, s2, .next (TV.to (cv_gt (v 5) ev_int).tv (by simp; omega)) (ss_cons (sv_if_t (TV.to (cv_eqi (ev_mod (v 5) ev_int (by decide)) ev_int).tv (by simp [ho])) (ss_one (sv_set (n := 3) rfl (.inl rfl) (ev_mod (ev_mul (v 3) (v 4) (.inr (by omega))) (v 2) (by omega)))))
            (ss_cons (sv_set (n := 4) rfl (.inl rfl) (ev_mod (ev_mul (v 4) (v 4) (.inr (by omega))) (v 2) (by omega))) (ss_one (sv_set (n := 5) rfl (.inl rfl) (EV.to (ev_fdiv (v 5) ev_int ⟨by decide, by omega⟩) (by rw [h2])))))) hL⟩
        · obtain ⟨s1, s2, hL⟩ := ih (t / 2) x (y * y % m) (by omega) (by omega) hx hy2 B T
          have e : x * (y * y % m) ^ (t / 2) % m = x * y ^ t % m := by
            rw [mul_cong (a' := x) rfl hpow]
            congr 3
            omega
          rw [e] at hL
          refine ⟨s1, s2, .next (TV.to (cv_gt (v 5) ev_int).tv (by simp; omega)) (ss_cons (sv_if_f (TV.to (cv_eqi (ev_mod (v 5) ev_int (by decide)) ev_int).tv (by simp [ho])) ss_nil)
            (ss_cons (sv_set (n := 4) rfl (.inl rfl) (ev_mod (ev_mul (v 4) (v 4) (.inr (by omega))) (v 2) (by omega))) (ss_one (sv_set (n := 5) rfl (.inl rfl) (EV.to (ev_fdiv (v 5) ev_int ⟨by decide, by omega⟩) (by rw [h2])))))) hL⟩
  obtain ⟨s1, s2, hL⟩ := loop t t (1 % m) (b % m) (Nat.le_refl _) ht (emod_b hm1) (emod_b hm1) (.int b) (.int (t : Int))
  have e : 1 % m * (b % m) ^ t % m = b ^ t % m := by
    rw [mul_cong (a' := 1) (b' := b ^ t) (Int.emod_emod_of_dvd _ (Int.dvd_refl m)) (pow_cong (Int.emod_emod_of_dvd _ (Int.dvd_refl m)) t), Int.one_mul]
  rw [e] at hL
  refine ⟨_, .rt, ss_cons (sv_par3 (n := 3) (m := 4) (l := 5) rfl rfl rfl rfl (by decide) (by decide) (by decide) rfl rfl rfl (av_cons (ev_mod ev_int (v 2) (by omega)) (av_cons (ev_mod (v 0) (v 2) (by omega)) (av_cons (v 1) av_nil))) ?_) (ss_cons (sv_while hL) (ss_one (sv_ret (v 3))))⟩
  intro env he
  cases env
  cases he
  rfl
end
end K01
namespace K01
open PySem PySem.Spec PyProof.Rows L2 VL
variable [Tb]
section
variable {P : Program} {w : World} {K : PySem.W.Frag} {mg : Str → Option Value} {base : Heap} {C : Addr}
abbrev nTurns : List Str := ["clock", "mover", "_"]
theorem scTurns : FnScope nTurns ["clock"] (defScope (topS 4)) := ⟨rfl, rfl, rfl, by decide +kernel, rfl, by decide +kernel, by decide +kernel⟩
abbrev R_turns : Rel := fun args r => ∃ c : Clk, OKc c ∧ args = [clkV c] ∧ r = .ok (.int (turnsIn c))
theorem fn_turns (A : At K mg "turns_in" 4 ["clock"]) (F : FnV P w K mg base 1 "multiplied" ["factors"] R_mult) : FnV P w K mg base 2 "turns_in" ["clock"] R_turns := by
  refine fn_at A scTurns fun args r h hl => ?_
  obtain ⟨c, hc, rfl, rfl⟩ := h
  refine ⟨_, .rt, ss_one (sv_ret (ev_call F rfl (Nat.le_refl _) (av_cons (ev_nv (nv_lcA [("mover", 1), ("_", 2)] (.many [1, 2]) pr c.2 (fun m => PV.int m.1) rfl ?_ ?_ ?_ ?_ ?_ fun m hm => ⟨rfl, v 1⟩)) av_nil) ⟨c.2.map (·.1), ?_, ?_, rfl⟩ rfl))⟩
  · exact iv_tup (ev_ixT (n := 1) (v 0) ev_int rfl rfl)
  · have := hc.l; omega
  · exact blkOk_by (N := nTurns) (sc := defScope (topS 4)) (by decide +kernel)
  · exact bv_many (.cons rfl (.inl rfl) (.inr rfl) (.cons rfl (.inl rfl) (.inr rfl) .nil)) rfl
  · decide
  · intro f hf
    obtain ⟨m, hm, rfl⟩ := List.mem_map.mp hf
    have := hc.m m hm
    omega
  · rw [List.map_map]; rfl
theorem scSize : FnScope ["clock"] ["clock"] (defScope (topS 5)) := ⟨rfl, rfl, rfl, by decide +kernel, rfl, by decide +kernel, by decide +kernel⟩
abbrev R_size : Rel := fun args r => ∃ c : Clk, OKc c ∧ args = [clkV c] ∧ r = .ok (.int (sizeIn c))
theorem fn_size (A : At K mg "size_in" 5 ["clock"]) (F : FnV P w K mg base 2 "turns_in" ["clock"] R_turns) : FnV P w K mg base 3 "size_in" ["clock"] R_size := by
  refine fn_at A scSize fun args r h hl => ?_
  obtain ⟨c, hc, rfl, rfl⟩ := h
  have := hc.b1; have := hc.b2
  exact ⟨_, .rt, ss_one (sv_ret (ev_mul (ev_ixT (n := 0) (v 0) ev_int rfl rfl) (ev_call F rfl (Nat.le_refl _) (av_cons (v 0) av_nil) ⟨c, hc, rfl, rfl⟩ rfl) (.inl (by omega))))⟩
abbrev nFac : List Str := ["clock", "turn", "_", "root"]
theorem scFac : FnScope nFac ["clock", "turn"] (defScope (topS 6)) := ⟨rfl, rfl, rfl, by decide +kernel, rfl, by decide +kernel, by decide +kernel⟩
abbrev R_fac : Rel := fun args r => ∃ (c : Clk) (t : Int), OKc c ∧ 0 ≤ t ∧ t < 100 ∧ args = [clkV c, .int t] ∧ r = .ok (.int (fac c t.toNat))
theorem fn_fac (A : At K mg "factor_in" 6 ["clock", "turn"]) (F : FnV P w K mg base 1 "multiplied" ["factors"] R_mult) (F2 : FnV P w K mg base 1 "power_modulo" pPow R_pow) : FnV P w K mg base 2 "factor_in" ["clock", "turn"] R_fac := by
  refine fn_at A scFac fun args r h hl => ?_
  obtain ⟨c, t, hc, h1, h2, rfl, rfl⟩ := h
  have := hc.b1; have := hc.b2
  refine ⟨_, .rt, ss_one (sv_ret (ev_call F2 rfl (Nat.le_refl _) (av_cons (ev_call F rfl (Nat.le_refl _) (av_cons (ev_nv (nv_lcA [("_", 2), ("root", 3)] (.many [2, 3]) pr c.2 (fun m => PV.int m.2) rfl ?_ ?_ ?_ ?_ ?_ fun m hm => ⟨rfl, v 3⟩)) av_nil) ⟨c.2.map (·.2), ?_, ?_, rfl⟩ rfl) (av_cons (v 1) (av_cons (ev_ixT (n := 0) (v 0) ev_int rfl rfl) av_nil))) ⟨rootsIn c, t.toNat, c.1, by omega, by omega, by omega, ?_, rfl⟩ rfl))⟩
  · exact iv_tup (ev_ixT (n := 1) (v 0) ev_int rfl rfl)
  · have := hc.l; omega
  · exact blkOk_by (N := nFac) (sc := defScope (topS 6)) (by decide +kernel)
  · exact bv_many (.cons rfl (.inl rfl) (.inr rfl) (.cons rfl (.inl rfl) (.inr rfl) .nil)) rfl
  · decide
  · intro f hf
    obtain ⟨m, hm, rfl⟩ := List.mem_map.mp hf
    have := hc.m m hm
    omega
  · rw [List.map_map]; rfl
  · rw [show ((t.toNat : Nat) : Int) = t by omega]; rfl
abbrev nEm : List Str := ["clock", "turns", "shift", "turn"]
theorem scEm : FnScope nEm ["clock"] (defScope (topS 7)) := ⟨rfl, rfl, rfl, by decide +kernel, rfl, by decide +kernel, by decide +kernel⟩
theorem span_len_le {n m : Int} (h : n ≤ 100) : (span 0 n).length ≤ 100 := by rw [span_len]; omega
theorem flat_le {α β : Type} (n : Nat) (f : α → List β) (h : ∀ x, (f x).length ≤ n) : ∀ xs : List α, (xs.flatMap f).length ≤ xs.length * n
  | [] => by simp
  | x :: xs => by
    have h1 := h x
    have h2 := flat_le n f h xs
    rw [List.flatMap_cons, List.length_append, List.length_cons, Nat.add_mul]
    omega
abbrev R_em : Rel := fun args r => ∃ c : Clk, OKc c ∧ args = [clkV c] ∧ r = .ok (.tup ((movesC c).map pr))
theorem em_pr (c : Clk) : ((span 0 (turnsIn c)).flatMap fun t => (span 0 c.1).map fun x => pr (x, t)) = (movesC c).map pr := by
  unfold movesC
  rw [List.map_flatMap]
  congr 1
  funext a
  rw [List.map_map]
  rfl
theorem moves_len {c : Clk} (h : OKc c) : (movesC c).length ≤ 3600 := by
  have h1 := flat_le 60 (fun t => (span 0 c.1).map fun x => (x, t)) (fun t => by rw [List.length_map, span_len]; have := h.b2; omega) (span 0 (turnsIn c))
  have h2 : (span 0 (turnsIn c)).length ≤ 60 := by rw [span_len]; have := h.t2; omega
  have h3 := Nat.mul_le_mul_right 60 h2
  unfold movesC
  omega
theorem fn_em (A : At K mg "every_move" 7 ["clock"]) (b : Bt mg) (F : FnV P w K mg base 2 "turns_in" ["clock"] R_turns) : FnV P w K mg base 3 "every_move" ["clock"] R_em := by
  refine fn_at A scEm fun args r h hl => ?_
  obtain ⟨c, hc, rfl, rfl⟩ := h
  have := hc.b1; have := hc.b2; have := hc.t1; have := hc.t2
  refine ⟨_, .rt, ss_cons (sv_set (n := 1) rfl (.inl rfl) (ev_rng (ev_call F rfl (Nat.le_refl _) (av_cons (v 0) av_nil) ⟨c, hc, rfl, rfl⟩ rfl) b.range)) (ss_one (sv_ret (ev_totup (qv_l (lv_nv (NV.to (nv_lc2 [("shift", 2), ("turn", 3)] [2] (.one 3) (.one 2) PV.int PV.int (span 0 (turnsIn c)) (fun _ => span 0 c.1) (fun t x => pr (x, t)) rfl ?_ ?_ ?_ ?_ ?_ ?_ ?_ ?_ ?_ ?_) (em_pr c)))) b.tuple)))⟩
  · exact IV.to (iv_rngV (v 1) (by omega)) (rng_span2 _ _)
  · rw [em_pr, List.length_map]; have := moves_len hc; omega
  · exact blkOk_by (N := nEm) (sc := defScope (topS 7)) (by decide +kernel)
  · decide
  · exact bv_one rfl (.inl rfl)
  · decide
  · exact bv_one rfl (.inl rfl)
  · decide
  · exact fun t ht => ⟨trivial, IV.to (iv_rng1 (ev_ixT (n := 0) (v 0) ev_int rfl rfl) (by omega) (by omega) b.range) (rng_span1 _)⟩
  · exact fun t ht x hx => ⟨trivial, ev_tup (av_cons (v 2) (av_cons (v 3) av_nil)) (show 2 ≤ 100000 by decide)⟩
abbrev nCM : List Str := ["clock", "move"]
theorem scNum : FnScope nCM nCM (defScope (topS 8)) := ⟨rfl, rfl, rfl, by decide +kernel, rfl, by decide +kernel, by decide +kernel⟩
abbrev R_num : Rel := fun args r => ∃ (c : Clk) (z : Int × Int), OKc c ∧ args = [clkV c, pr z] ∧ r = .ok (.int (z.2 * c.1 + z.1))
theorem fn_num (A : At K mg "number_in" 8 nCM) : FnV P w K mg base 1 "number_in" nCM R_num := by
  refine fn_at A scNum fun args r h hl => ?_
  obtain ⟨c, z, hc, rfl, rfl⟩ := h
  have := hc.b1; have := hc.b2
  exact ⟨_, .rt, ss_one (sv_ret (ev_add (ev_mul (ev_ixT (n := 1) (v 1) ev_int rfl rfl) (ev_ixT (n := 0) (v 0) ev_int rfl rfl) (.inr (by omega))) (ev_ixT (n := 0) (v 1) ev_int rfl rfl)))⟩
abbrev nBA : List Str := ["clock", "move", "beat"]
theorem scBA : FnScope nBA nBA (defScope (topS 9)) := ⟨rfl, rfl, rfl, by decide +kernel, rfl, by decide +kernel, by decide +kernel⟩
abbrev R_ba : Rel := fun args r => ∃ (c : Clk) (z : Int × Int) (b : Int), OKc c ∧ Mv c z ∧ args = [clkV c, pr z, .int b] ∧ r = .ok (.int (beatA c z b))
theorem fn_ba (A : At K mg "beat_after" 9 nBA) (F : FnV P w K mg base 2 "factor_in" ["clock", "turn"] R_fac) : FnV P w K mg base 3 "beat_after" nBA R_ba := by
  refine fn_at A scBA fun args r h hl => ?_
  obtain ⟨c, z, b, hc, hz, rfl, rfl⟩ := h
  have := hc.b1; have := hc.b2; have := hc.t2; have := hz.t1; have := hz.t2
  have hf := fac_b hc z.2.toNat
  exact ⟨_, .rt, ss_one (sv_ret (ev_mod (ev_add (ev_mul (ev_call F rfl (Nat.le_refl _) (av_cons (v 0) (av_cons (ev_ixT (n := 1) (v 1) ev_int rfl rfl) av_nil)) ⟨c, z.2, hc, by omega, by omega, rfl, rfl⟩ rfl) (v 2) (.inl (by omega))) (ev_ixT (n := 0) (v 1) ev_int rfl rfl)) (ev_ixT (n := 0) (v 0) ev_int rfl rfl) (by omega)))⟩
abbrev nCOO : List Str := ["clock", "one", "other"]
theorem scJoin : FnScope nCOO nCOO (defScope (topS 10)) := ⟨rfl, rfl, rfl, by decide +kernel, rfl, by decide +kernel, by decide +kernel⟩
abbrev R_join : Rel := fun args r => ∃ (c : Clk) (z y : Int × Int), OKc c ∧ Mv c z ∧ Mv c y ∧ args = [clkV c, pr z, pr y] ∧ r = .ok (pr (joinM c z y))
theorem fn_join (A : At K mg "joined" 10 nCOO) (F : FnV P w K mg base 3 "beat_after" nBA R_ba) (F2 : FnV P w K mg base 2 "turns_in" ["clock"] R_turns) : FnV P w K mg base 4 "joined" nCOO R_join := by
  refine fn_at A scJoin fun args r h hl => ?_
  obtain ⟨c, z, y, hc, hz, hy, rfl, rfl⟩ := h
  have := hc.t1
  exact ⟨_, .rt, ss_one (sv_ret (ev_tup (av_cons (ev_call F rfl (Nat.le_refl _) (av_cons (v 0) (av_cons (v 2) (av_cons (ev_ixT (n := 0) (v 1) ev_int rfl rfl) av_nil))) ⟨c, y, z.1, hc, hy, rfl, rfl⟩ rfl) (av_cons (ev_mod (ev_add (ev_ixT (n := 1) (v 1) ev_int rfl rfl) (ev_ixT (n := 1) (v 2) ev_int rfl rfl)) (ev_call F2 rfl (show (2:Nat) ≤ 3 by decide) (av_cons (v 0) av_nil) ⟨c, hc, rfl, rfl⟩ rfl) (by omega)) av_nil)) (show 2 ≤ 100000 by decide)))⟩
abbrev nBack : List Str := ["clock", "move", "turn"]
theorem scBack : FnScope nBack nCM (defScope (topS 11)) := ⟨rfl, rfl, rfl, by decide +kernel, rfl, by decide +kernel, by decide +kernel⟩
abbrev R_back : Rel := fun args r => ∃ (c : Clk) (z : Int × Int), OKc c ∧ Mv c z ∧ args = [clkV c, pr z] ∧ r = .ok (pr (backM c z))
theorem fn_back (A : At K mg "back_in" 11 nCM) (F : FnV P w K mg base 2 "factor_in" ["clock", "turn"] R_fac) (F2 : FnV P w K mg base 2 "turns_in" ["clock"] R_turns) : FnV P w K mg base 3 "back_in" nCM R_back := by
  refine fn_at A scBack fun args r h hl => ?_
  obtain ⟨c, z, hc, hz, rfl, rfl⟩ := h
  have := hc.b1; have := hc.b2; have := hc.t1; have := hc.t2
  have hn : 0 ≤ negT c z.2 ∧ negT c z.2 < turnsIn c := emod_b hc.t1
  have hf := fac_b hc (negT c z.2).toNat
  exact ⟨_, .rt, ss_cons (sv_set (n := 2) rfl (.inl rfl) (ev_mod (ev_neg (ev_ixT (n := 1) (v 1) ev_int rfl rfl)) (ev_call F2 rfl (Nat.le_refl _) (av_cons (v 0) av_nil) ⟨c, hc, rfl, rfl⟩ rfl) (by omega)))
    (ss_one (sv_ret (ev_tup (av_cons (ev_mod (ev_mul (ev_neg (ev_call F rfl (Nat.le_refl _) (av_cons (v 0) (av_cons (v 2) av_nil)) ⟨c, negT c z.2, hc, by omega, by omega, rfl, rfl⟩ rfl)) (ev_ixT (n := 0) (v 1) ev_int rfl rfl) (.inl (by omega))) (ev_ixT (n := 0) (v 0) ev_int rfl rfl) (by omega)) (av_cons (v 2) av_nil)) (show 2 ≤ 100000 by decide))))⟩
abbrev nTn : List Str := ["clock", "move", "by", "away"]
abbrev pTn : List Str := ["clock", "move", "by"]
theorem scTn : FnScope nTn pTn (defScope (topS 12)) := ⟨rfl, rfl, rfl, by decide +kernel, rfl, by decide +kernel, by decide +kernel⟩
abbrev R_tn : Rel := fun args r => ∃ (c : Clk) (z y : Int × Int), OKc c ∧ Mv c z ∧ Mv c y ∧ args = [clkV c, pr z, pr y] ∧ r = .ok (pr (turnedM c z y))
theorem fn_tn (A : At K mg "turned_in" 12 pTn) (F : FnV P w K mg base 2 "factor_in" ["clock", "turn"] R_fac) : FnV P w K mg base 3 "turned_in" pTn R_tn := by
  refine fn_at A scTn fun args r h hl => ?_
  obtain ⟨c, z, y, hc, hz, hy, rfl, rfl⟩ := h
  have := hc.b1; have := hc.b2; have := hc.t2; have := hz.t1; have := hz.t2; have := hy.t1; have := hy.t2
  have hf := fac_b hc z.2.toNat
  have hf2 := fac_b hc y.2.toNat
  exact ⟨_, .rt, ss_cons (sv_set (n := 3) rfl (.inl rfl) (ev_mul (ev_sub ev_int (ev_call F rfl (Nat.le_refl _) (av_cons (v 0) (av_cons (ev_ixT (n := 1) (v 1) ev_int rfl rfl) av_nil)) ⟨c, z.2, hc, by omega, by omega, rfl, rfl⟩ rfl)) (ev_ixT (n := 0) (v 2) ev_int rfl rfl) (.inl (by omega))))
    (ss_one (sv_ret (ev_tup (av_cons (ev_mod (ev_add (ev_mul (ev_call F rfl (Nat.le_refl _) (av_cons (v 0) (av_cons (ev_ixT (n := 1) (v 2) ev_int rfl rfl) av_nil)) ⟨c, y.2, hc, by omega, by omega, rfl, rfl⟩ rfl) (ev_ixT (n := 0) (v 1) ev_int rfl rfl) (.inl (by omega))) (v 3)) (ev_ixT (n := 0) (v 0) ev_int rfl rfl) (by omega)) (av_cons (ev_ixT (n := 1) (v 1) ev_int rfl rfl) av_nil)) (show 2 ≤ 100000 by decide))))⟩
/-! ### kinds -/
abbrev nThing : List Str := ["thing"]
theorem scInteger : FnScope nThing nThing (defScope (topS 14)) := ⟨rfl, rfl, rfl, by decide +kernel, rfl, by decide +kernel, by decide +kernel⟩
abbrev R_integer : Rel := fun args r => ∃ p : PV, p.ty ≠ "?" ∧ args = [p] ∧ r = .ok (.bl (isIntV p))
theorem fn_integer (A : At K mg "is_integer" 14 nThing) (b : Bt mg) : FnV P w K mg base 1 "is_integer" nThing R_integer := by
  refine fn_at A scInteger fun args r h hl => ?_
  obtain ⟨p, hp, rfl, rfl⟩ := h
  refine ⟨_, .rt, ss_one (sv_ret ?_)⟩
  have e : (p.isI && !p.isB) = isIntV p := by cases p <;> rfl
  rw [← e]
  exact ev_and (ev_isi (v 0) hp (kit_int hp) b.isinstance b.int (by decide +kernel)) fun _ => ev_one (ev_not (ev_isi (v 0) hp (kit_bool hp) b.isinstance b.bool (by decide +kernel)))
theorem scNumber : FnScope nThing nThing (defScope (topS 15)) := ⟨rfl, rfl, rfl, by decide +kernel, rfl, by decide +kernel, by decide +kernel⟩
abbrev R_number : Rel := fun args r => ∃ p : PV, p.ty ≠ "?" ∧ args = [p] ∧ r = .ok (.bl (isNumV p))
theorem fn_number (A : At K mg "is_number" 15 nThing) (F : FnV P w K mg base 1 "is_integer" nThing R_integer) : FnV P w K mg base 2 "is_number" nThing R_number := by
  refine fn_at A scNumber fun args r h hl => ?_
  obtain ⟨p, hp, rfl, rfl⟩ := h
  refine ⟨_, .rt, ss_one (sv_ret ?_)⟩
  have call : ∀ x, isIntV p = x → EV (gam P w K mg base nThing (topS 15) 1 true) (start0 nThing.length [p]) (match nthS (defBody (topS 15)) 0 with | .Return (some (.BoolOp _ (e :: _) _)) _ => e | _ => .Constant .none 0 ⟨0, 0, 0, 0⟩) (.bl x) := fun x hx => by
    subst hx
    exact ev_call F rfl (Nat.le_refl _) (av_cons (v 0) av_nil) ⟨p, hp, rfl, rfl⟩ rfl
  cases p with
  | int i => exact ev_and_t (call true rfl) (ev_one (cv_ge (v 0) ev_int).ev)
  | non => exact ev_and_f (call false rfl)
  | bl x => exact ev_and_f (call false rfl)
  | str x => exact ev_and_f (call false rfl)
  | tup x => exact ev_and_f (call false rfl)
  | lst x => exact ev_and_f (call false rfl)
  | exc _ _ _ _ _ => exact absurd rfl hp
  | rng _ _ => exact absurd rfl hp
abbrev nBel : List Str := ["thing", "limit"]
theorem scBel : FnScope nBel nBel (defScope (topS 16)) := ⟨rfl, rfl, rfl, by decide +kernel, rfl, by decide +kernel, by decide +kernel⟩
abbrev R_bel : Rel := fun args r => ∃ (p : PV) (m : Int), p.ty ≠ "?" ∧ args = [p, .int m] ∧ r = .ok (.bl (isBelV m p))
theorem fn_bel (A : At K mg "is_below" 16 nBel) (F : FnV P w K mg base 2 "is_number" nThing R_number) : FnV P w K mg base 3 "is_below" nBel R_bel := by
  refine fn_at A scBel fun args r h hl => ?_
  obtain ⟨p, m, hp, rfl, rfl⟩ := h
  refine ⟨_, .rt, ss_one (sv_ret ?_)⟩
  have call : ∀ x, isNumV p = x → EV (gam P w K mg base nBel (topS 16) 2 true) (start0 nBel.length [p, .int m]) (match nthS (defBody (topS 16)) 0 with | .Return (some (.BoolOp _ (e :: _) _)) _ => e | _ => .Constant .none 0 ⟨0, 0, 0, 0⟩) (.bl x) := fun x hx => by
    subst hx
    exact ev_call F rfl (Nat.le_refl _) (av_cons (v 0) av_nil) ⟨p, hp, rfl, rfl⟩ rfl
  cases p with
  | int i =>
    show EV _ _ _ (.bl (decide (0 ≤ i) && decide (i < m)))
    exact ev_and (call _ rfl) fun _ => ev_one (cv_lt (v 0) (v 1)).ev
  | non => exact ev_and_f (call false rfl)
  | bl x => exact ev_and_f (call false rfl)
  | str x => exact ev_and_f (call false rfl)
  | tup x => exact ev_and_f (call false rfl)
  | lst x => exact ev_and_f (call false rfl)
  | exc _ _ _ _ _ => exact absurd rfl hp
  | rng _ _ => exact absurd rfl hp
theorem scPair : FnScope nThing nThing (defScope (topS 17)) := ⟨rfl, rfl, rfl, by decide +kernel, rfl, by decide +kernel, by decide +kernel⟩
abbrev R_pair : Rel := fun args r => ∃ (p : PV), p.ty ≠ "?" ∧ args = [p] ∧ r = .ok (.bl (isPairV p))
theorem fn_pair (A : At K mg "is_pair" 17 nThing) (b : Bt mg) : FnV P w K mg base 1 "is_pair" nThing R_pair := by
  refine fn_at A scPair fun args r h hl => ?_
  obtain ⟨p, hp, rfl, rfl⟩ := h
  refine ⟨_, .rt, ss_one (sv_ret ?_)⟩
  have isi : ∀ x, p.isT = x → EV (gam P w K mg base nThing (topS 17) 0 true) (start0 nThing.length [p]) (match nthS (defBody (topS 17)) 0 with | .Return (some (.BoolOp _ (e :: _) _)) _ => e | _ => .Constant .none 0 ⟨0, 0, 0, 0⟩) (.bl x) := fun x hx => by
    subst hx
    exact ev_isi (v 0) hp (kit_tuple hp) b.isinstance b.tuple (by decide +kernel)
  cases p with
  | tup xs => exact ev_and_t (isi true rfl) (ev_one (cv_eqi (ev_len (qv_t (v 0)) b.len) ev_int).ev)
  | int x => exact ev_and_f (isi false rfl)
  | non => exact ev_and_f (isi false rfl)
  | bl x => exact ev_and_f (isi false rfl)
  | str x => exact ev_and_f (isi false rfl)
  | lst x => exact ev_and_f (isi false rfl)
  | exc _ _ _ _ _ => exact absurd rfl hp
  | rng _ _ => exact absurd rfl hp
theorem pairV_shape {p : PV} (h : isPairV p = true) : ∃ x y, p = .tup [x, y] := by
  cases p with
  | tup xs =>
    have e : (xs.length : Int) = 2 := of_decide_eq_true h
    match xs, e with
    | [x, y], _ => exact ⟨x, y, rfl⟩
    | [], e => simp at e
    | [_], e => simp at e
    | _ :: _ :: _ :: _, e => simp at e; omega
  | _ => cases h
theorem moveV_no {c : Clk} {p : PV} (h : isPairV p = false) : isMoveV c p = false := by
  unfold isMoveV
  split
  · simp [isPairV] at h
  · rfl
abbrev nIM : List Str := ["clock", "thing"]
theorem scIM : FnScope nIM nIM (defScope (topS 18)) := ⟨rfl, rfl, rfl, by decide +kernel, rfl, by decide +kernel, by decide +kernel⟩
abbrev R_im : Rel := fun args r => ∃ (c : Clk) (p : PV), OKc c ∧ Fine p ∧ args = [clkV c, p] ∧ r = .ok (.bl (isMoveV c p))
theorem fn_im (A : At K mg "is_move" 18 nIM) (F1 : FnV P w K mg base 1 "is_pair" nThing R_pair) (F2 : FnV P w K mg base 3 "is_below" nBel R_bel) (F3 : FnV P w K mg base 2 "turns_in" ["clock"] R_turns) : FnV P w K mg base 4 "is_move" nIM R_im := by
  refine fn_at A scIM fun args r h hl => ?_
  obtain ⟨c, p, hc, hp, rfl, rfl⟩ := h
  refine ⟨_, .rt, ss_one (sv_ret ?_)⟩
  have call : ∀ x, isPairV p = x → EV (gam P w K mg base nIM (topS 18) 3 true) (start0 nIM.length [clkV c, p]) (match nthS (defBody (topS 18)) 0 with | .Return (some (.BoolOp _ (e :: _) _)) _ => e | _ => .Constant .none 0 ⟨0, 0, 0, 0⟩) (.bl x) := fun x hx => by
    subst hx
    exact ev_call F1 rfl (show (1:Nat) ≤ 3 by decide) (av_cons (v 1) av_nil) ⟨p, hp.1, rfl, rfl⟩ rfl
  cases e : isPairV p with
  | false =>
    rw [moveV_no e]
    exact ev_and_f (call false e)
  | true =>
    obtain ⟨x, y, rfl⟩ := pairV_shape e
    have fx := hp.2 _ rfl x List.mem_cons_self
    have fy := hp.2 _ rfl y (List.mem_cons_of_mem _ List.mem_cons_self)
    refine ev_and_t (call true e) ?_
    exact ev_and (ev_call F2 rfl (Nat.le_refl _) (av_cons (ev_ixT (n := 0) (v 1) ev_int rfl rfl) (av_cons (ev_ixT (n := 0) (v 0) ev_int rfl rfl) av_nil)) ⟨x, c.1, fx, rfl, rfl⟩ rfl) fun _ => ev_one
      (ev_call F2 rfl (Nat.le_refl _) (av_cons (ev_ixT (n := 1) (v 1) ev_int rfl rfl) (av_cons (ev_call F3 rfl (show (2:Nat) ≤ 3 by decide) (av_cons (v 0) av_nil) ⟨c, hc, rfl, rfl⟩ rfl) av_nil)) ⟨y, turnsIn c, fy, rfl, rfl⟩ rfl)
abbrev nNeed : List Str := ["fine", "word"]
theorem scNeed : FnScope nNeed nNeed (defScope (topS 24)) := ⟨rfl, rfl, rfl, by decide +kernel, rfl, by decide +kernel, by decide +kernel⟩
abbrev R_need (C : Addr) : Rel := fun args r => ∃ (x : Bool) (z : Str), args = [.bl x, .str z] ∧ r = (if x then .ok .non else badR C z)
theorem fn_need (A : At K mg "need" 24 nNeed) (E : ErrV P w K mg base 1 "NotUsable" C "word" "at") : FnV P w K mg base 3 "need" nNeed (R_need C) := by
  refine fn_at A scNeed fun args r h hl => ?_
  obtain ⟨x, z, rfl, rfl⟩ := h
  cases x with
  | true => exact ⟨_, .nx, ss_one (sv_if_f (tv_not_t (tv_val (v 0))) ss_nil)⟩
  | false => exact ⟨_, .xc, ss_one (sv_if_t (tv_not_f (tv_val (v 0))) (ss_one (sv_raise E rfl (Nat.le_refl 2) (v 1) (ev_neg ev_int))))⟩
end
end K01
namespace VL
open PySem PySem.Spec PyProof.Rows L2
variable [Tb]
/-- a tuple of the written part, by a global name -/
theorem ev_glT {G : Gam} {ρ : List Sl} {x : Str} {pos : Pos} {a : Addr} {xs : List PV} (hm : G.mg x = some (.ref a)) (hK : ∀ H B, VR G.K H B (.ref a) (.tup xs)) (hg : G.sc.names.lookup x = some .globalImplicit := by first | rfl | decide +kernel) (hd : (x == ("__debug__" : Str)) = false := by decide) :
    EV G ρ (.Name x pos) (.tup xs) := fun X hX U B σ H Q E q => of_pe (pe_glob (v := .ref a) (hX.gl hg) (by rw [hX.mg]; exact hm) rfl hd) (q _ H (Ex.refl H) (hK H B))
end VL
namespace K01
open PySem PySem.Spec PyProof.Rows L2 VL
variable [Tb]
section
variable {P : Program} {w : World} {K : PySem.W.Frag} {mg : Str → Option Value} {base : Heap} {C : Addr}
section
variable {G : Gam} {ρ : List Sl} {e : Expr} {z : Str} {kk : Nat} {p1 p2 p3 pos : Pos}
theorem sv_need_t (F2 : G.Fn 3 "need" nNeed (R_need C)) (hc : G.calm = true) (hk : 3 ≤ G.k) (h : EV G ρ e (.bl true)) (hg : G.sc.names.lookup ("need" : Str) = some .globalImplicit := by first | rfl | decide +kernel)
    (hs : ∀ env, starEach [e, .Constant (.str z) kk p2] env = (false, eval e env) :: starEach [.Constant (.str z) kk p2] env := by intro _; rfl) (hpl : ∀ env, (backTo p3 (starEach [.Constant (.str z) kk p2] env)).any (·.1) = false := by intro _; rfl)
    (hw : ∀ env, swapsWith (.Call (.Name "need" p1) [e, .Constant (.str z) kk p2] [] p3) none pos.line env = pure false := by intro _; rfl) : SV G ρ (.Expr (.Call (.Name "need" p1) [e, .Constant (.str z) kk p2] [] p3) pos) (.nx ρ) :=
  sv_expr (ev_call F2 hc hk (av_cons h (av_cons ev_str av_nil) hs) ⟨true, z, rfl, rfl⟩ rfl hg (by decide) hs hpl) hw
theorem sv_need_f (F2 : G.Fn 3 "need" nNeed (R_need C)) (hc : G.calm = true) (hk : 3 ≤ G.k) (h : EV G ρ e (.bl false)) (hg : G.sc.names.lookup ("need" : Str) = some .globalImplicit := by first | rfl | decide +kernel)
    (hs : ∀ env, starEach [e, .Constant (.str z) kk p2] env = (false, eval e env) :: starEach [.Constant (.str z) kk p2] env := by intro _; rfl) (hpl : ∀ env, (backTo p3 (starEach [.Constant (.str z) kk p2] env)).any (·.1) = false := by intro _; rfl)
    (hw : ∀ env, swapsWith (.Call (.Name "need" p1) [e, .Constant (.str z) kk p2] [] p3) none pos.line env = pure false := by intro _; rfl) : SV G ρ (.Expr (.Call (.Name "need" p1) [e, .Constant (.str z) kk p2] [] p3) pos) (.xc ρ C ["at", "word"] [.int (-1), .str z]) :=
  sv_exprX (ex_call F2 hc hk (av_cons h (av_cons ev_str av_nil) hs) ⟨false, z, rfl, rfl⟩ rfl hg (by decide) hs hpl) hw
end
section
variable {G : Gam} {ρ : List Sl} {a b : Expr} {c : Clk} {p : PV} {p1 pos : Pos} {x : Bool}
theorem ev_im (F1 : G.Fn 4 "is_move" nIM R_im) (hc : G.calm = true) (hk : 4 ≤ G.k) (h0 : EV G ρ a (clkV c)) (h1 : EV G ρ b p) (oc : OKc c) (fp : Fine p) (e : isMoveV c p = x) (hg : G.sc.names.lookup ("is_move" : Str) = some .globalImplicit := by first | rfl | decide +kernel)
    (hs : ∀ env, starEach [a, b] env = (false, eval a env) :: starEach [b] env := by intro _; rfl) (hs2 : ∀ env, starEach [b] env = (false, eval b env) :: starEach [] env := by intro _; rfl) (hpl : ∀ env, (backTo pos (starEach [b] env)).any (·.1) = false := by intro _; rfl) : EV G ρ (.Call (.Name "is_move" p1) [a, b] [] pos) (.bl x) := by
  subst e
  exact ev_call F1 hc hk (av_cons h0 (av_cons h1 av_nil hs2) hs) ⟨c, p, oc, fp, rfl, rfl⟩ rfl hg (by decide) hs hpl
theorem ev_ib {m : Int} (F1 : G.Fn 3 "is_below" nBel R_bel) (hc : G.calm = true) (hk : 3 ≤ G.k) (h0 : EV G ρ a p) (h1 : EV G ρ b (.int m)) (fp : p.ty ≠ "?") (e : isBelV m p = x) (hg : G.sc.names.lookup ("is_below" : Str) = some .globalImplicit := by first | rfl | decide +kernel)
    (hs : ∀ env, starEach [a, b] env = (false, eval a env) :: starEach [b] env := by intro _; rfl) (hs2 : ∀ env, starEach [b] env = (false, eval b env) :: starEach [] env := by intro _; rfl) (hpl : ∀ env, (backTo pos (starEach [b] env)).any (·.1) = false := by intro _; rfl) : EV G ρ (.Call (.Name "is_below" p1) [a, b] [] pos) (.bl x) := by
  subst e
  exact ev_call F1 hc hk (av_cons h0 (av_cons h1 av_nil hs2) hs) ⟨p, m, fp, rfl, rfl⟩ rfl hg (by decide) hs hpl
end
abbrev nCT : List Str := ["clock", "turn"]
theorem scFAt : FnScope nCT nCT (defScope (topS 27)) := ⟨rfl, rfl, rfl, by decide +kernel, rfl, by decide +kernel, by decide +kernel⟩
/-- what one value is asked for, below a limit -/
abbrev R_b (C : Addr) (z : Str) (m : Clk → Int) (f : Clk → Int → PV) : Rel := fun args r => ∃ (c : Clk) (p : PV), OKc c ∧ p.ty ≠ "?" ∧ args = [clkV c, p] ∧ ((isBelV (m c) p = false ∧ r = badR C z) ∨ ∃ i, p = .int i ∧ 0 ≤ i ∧ i < m c ∧ r = .ok (f c i))
/-- a move is asked for -/
abbrev R_m (C : Addr) (z : Str) (f : Clk → Int × Int → PV) : Rel := fun args r => ∃ (c : Clk) (p : PV), OKc c ∧ Fine p ∧ args = [clkV c, p] ∧ ((isMoveV c p = false ∧ r = badR C z) ∨ ∃ y, p = pr y ∧ Mv c y ∧ r = .ok (f c y))
/-- two moves are asked for -/
abbrev R_mm (C : Addr) (z1 z2 : Str) (f : Clk → Int × Int → Int × Int → PV) : Rel := fun args r => ∃ (c : Clk) (p q : PV), OKc c ∧ Fine p ∧ Fine q ∧ args = [clkV c, p, q] ∧ ((isMoveV c p = false ∧ r = badR C z1) ∨ (isMoveV c p = true ∧ isMoveV c q = false ∧ r = badR C z2) ∨ ∃ y x, p = pr y ∧ q = pr x ∧ Mv c y ∧ Mv c x ∧ r = .ok (f c y x))
theorem b_fat (F1 : FnV P w K mg base 3 "is_below" nBel R_bel) (F2 : FnV P w K mg base 3 "need" nNeed (R_need C)) (F3 : FnV P w K mg base 2 "turns_in" ["clock"] R_turns) (F4 : FnV P w K mg base 2 "factor_in" nCT R_fac) : Bod P w K mg base nCT 27 3 nCT (R_b C "turn" turnsIn fun c i => .int (fac c i.toNat)) := by
  intro args r h hl
  obtain ⟨c, p, hc, hp, rfl, h⟩ := h
  have := hc.t2
  have lim : EV (gam P w K mg base nCT (topS 27) 3 true) (start0 nCT.length [clkV c, p]) (.Call (.Name "turns_in" ⟨0, 0, 0, 0⟩) [.Name "clock" ⟨0, 0, 0, 0⟩] [] ⟨0, 0, 0, 0⟩) (.int (turnsIn c)) := ev_call F3 rfl (show (2:Nat) ≤ 3 by decide) (av_cons (v 0) av_nil) ⟨c, hc, rfl, rfl⟩ rfl
  rcases h with ⟨hf, rfl⟩ | ⟨i, rfl, h1, h2, rfl⟩
  · exact ⟨_, .xc, ss_stop (sv_need_f F2 rfl (Nat.le_refl _) (ev_ib F1 rfl (Nat.le_refl _) (v 1) (ev_call F3 rfl (show (2:Nat) ≤ 3 by decide) (av_cons (v 0) av_nil) ⟨c, hc, rfl, rfl⟩ rfl) hp hf))⟩
  · exact ⟨_, .rt, ss_cons (sv_need_t F2 rfl (Nat.le_refl _) (ev_ib F1 rfl (Nat.le_refl _) (v 1) (ev_call F3 rfl (show (2:Nat) ≤ 3 by decide) (av_cons (v 0) av_nil) ⟨c, hc, rfl, rfl⟩ rfl) hp (bel_yes h1 h2)))
      (ss_one (sv_ret (ev_call F4 rfl (show (2:Nat) ≤ 3 by decide) (av_cons (v 0) (av_cons (v 1) av_nil)) ⟨c, i, hc, h1, by omega, rfl, rfl⟩ rfl)))⟩
theorem scThen : FnScope nCOO nCOO (defScope (topS 28)) := ⟨rfl, rfl, rfl, by decide +kernel, rfl, by decide +kernel, by decide +kernel⟩
theorem b_then (F1 : FnV P w K mg base 4 "is_move" nIM R_im) (F2 : FnV P w K mg base 3 "need" nNeed (R_need C)) (F3 : FnV P w K mg base 4 "joined" nCOO R_join) : Bod P w K mg base nCOO 28 4 nCOO (R_mm C "one" "other" fun c y x => pr (joinM c y x)) := by
  intro args r h hl
  obtain ⟨c, p, q, hc, hp, hq, rfl, h⟩ := h
  rcases h with ⟨hf, rfl⟩ | ⟨ht, hf, rfl⟩ | ⟨y, x, rfl, rfl, my, mx, rfl⟩
  · exact ⟨_, .xc, ss_stop (sv_need_f F2 rfl (show (3:Nat) ≤ 4 by decide) (ev_im F1 rfl (Nat.le_refl _) (v 0) (v 1) hc hp hf))⟩
  · exact ⟨_, .xc, ss_cons (sv_need_t F2 rfl (show (3:Nat) ≤ 4 by decide) (ev_im F1 rfl (Nat.le_refl _) (v 0) (v 1) hc hp ht)) (ss_stop (sv_need_f F2 rfl (show (3:Nat) ≤ 4 by decide) (ev_im F1 rfl (Nat.le_refl _) (v 0) (v 2) hc hq hf)))⟩
  · exact ⟨_, .rt, ss_cons (sv_need_t F2 rfl (show (3:Nat) ≤ 4 by decide) (ev_im F1 rfl (Nat.le_refl _) (v 0) (v 1) hc hp (move_yes my))) (ss_cons (sv_need_t F2 rfl (show (3:Nat) ≤ 4 by decide) (ev_im F1 rfl (Nat.le_refl _) (v 0) (v 2) hc hq (move_yes mx)))
      (ss_one (sv_ret (ev_call F3 rfl (Nat.le_refl _) (av_cons (v 0) (av_cons (v 1) (av_cons (v 2) av_nil))) ⟨c, y, x, hc, my, mx, rfl, rfl⟩ rfl))))⟩
theorem scBackOf : FnScope nCM nCM (defScope (topS 29)) := ⟨rfl, rfl, rfl, by decide +kernel, rfl, by decide +kernel, by decide +kernel⟩
theorem b_backof (F1 : FnV P w K mg base 4 "is_move" nIM R_im) (F2 : FnV P w K mg base 3 "need" nNeed (R_need C)) (F3 : FnV P w K mg base 3 "back_in" nCM R_back) : Bod P w K mg base nCM 29 4 nCM (R_m C "move" fun c y => pr (backM c y)) := by
  intro args r h hl
  obtain ⟨c, p, hc, hp, rfl, h⟩ := h
  rcases h with ⟨hf, rfl⟩ | ⟨y, rfl, my, rfl⟩
  · exact ⟨_, .xc, ss_stop (sv_need_f F2 rfl (show (3:Nat) ≤ 4 by decide) (ev_im F1 rfl (Nat.le_refl _) (v 0) (v 1) hc hp hf))⟩
  · exact ⟨_, .rt, ss_cons (sv_need_t F2 rfl (show (3:Nat) ≤ 4 by decide) (ev_im F1 rfl (Nat.le_refl _) (v 0) (v 1) hc hp (move_yes my)))
      (ss_one (sv_ret (ev_call F3 rfl (show (3:Nat) ≤ 4 by decide) (av_cons (v 0) (av_cons (v 1) av_nil)) ⟨c, y, hc, my, rfl, rfl⟩ rfl)))⟩
abbrev nMT : List Str := ["clock", "move", "many", "result", "_"]
abbrev pMT : List Str := ["clock", "move", "many"]
theorem scMT : FnScope nMT pMT (defScope (topS 30)) := ⟨rfl, rfl, rfl, by decide +kernel, rfl, by decide +kernel, by decide +kernel⟩
abbrev R_mt (C : Addr) : Rel := fun args r => ∃ (c : Clk) (p q : PV), OKc c ∧ Fine p ∧ q.ty ≠ "?" ∧ args = [clkV c, p, q] ∧ ((isMoveV c p = false ∧ r = badR C "move") ∨ (isMoveV c p = true ∧ isIntV q = false ∧ r = badR C "many") ∨ ∃ y i, p = pr y ∧ q = .int i ∧ Mv c y ∧ r = .ok (pr (timesM c y i)))
theorem b_mt (b : Bt mg) {ai : Addr} (hI : mg "IDLE" = some (.ref ai)) (hIK : ∀ H B, VR K H B (.ref ai) (pr (0, 0))) (F1 : FnV P w K mg base 4 "is_move" nIM R_im) (F2 : FnV P w K mg base 3 "need" nNeed (R_need C)) (F3 : FnV P w K mg base 4 "joined" nCOO R_join) (F4 : FnV P w K mg base 1 "is_integer" nThing R_integer) (F5 : FnV P w K mg base 3 "size_in" ["clock"] R_size) :
    Bod P w K mg base nMT 30 4 pMT (R_mt C) := by
  intro args r h hl
  obtain ⟨c, p, q, hc, hp, hq, rfl, h⟩ := h
  have loop : ∀ (y : Int × Int) (V : PV), Mv c y → ∀ (n j : Nat) (its : List Int) (s : Sl), its.length = n → ∃ s', LoopV (gam P w K mg base nMT (topS 30) 4 true) (.one 4) (forBody (nthS (defBody (topS 30)) 3)) (its.map PV.int) [.val (clkV c), .val (pr y), .val V, .val (pr (walkM c y j)), s] (.nx [.val (clkV c), .val (pr y), .val V, .val (pr (walkM c y (j + n))), s']) := by
    intro y V my n
    induction n with
    | zero =>
      intro j its s hl
      obtain rfl : its = [] := List.length_eq_zero_iff.mp hl
      exact ⟨s, .nil⟩
    | succ n ih =>
      intro j its s hl
      match its, hl with
      | i :: its, hl =>
        obtain ⟨s', hL⟩ := ih (j + 1) its (.val (.int i)) (by simpa using hl)
        rw [show j + 1 + n = j + (n + 1) by omega] at hL
        exact ⟨s', .next trivial (ss_one (sv_set (n := 3) rfl (.inl rfl) (ev_call F3 rfl (Nat.le_refl _) (av_cons (v 0) (av_cons (v 3) (av_cons (v 1) av_nil))) ⟨c, walkM c y j, y, hc, walk_mv hc y j, my, rfl, rfl⟩ rfl))) hL⟩
  rcases h with ⟨hf, rfl⟩ | ⟨ht, hf, rfl⟩ | ⟨y, i, rfl, rfl, my, rfl⟩
  · exact ⟨_, .xc, ss_stop (sv_need_f F2 rfl (show (3:Nat) ≤ 4 by decide) (ev_im F1 rfl (Nat.le_refl _) (v 0) (v 1) hc hp hf))⟩
  · exact ⟨_, .xc, ss_cons (sv_need_t F2 rfl (show (3:Nat) ≤ 4 by decide) (ev_im F1 rfl (Nat.le_refl _) (v 0) (v 1) hc hp ht)) (ss_stop (sv_need_f F2 rfl (show (3:Nat) ≤ 4 by decide) (EV.to (ev_call F4 rfl (show (1:Nat) ≤ 4 by decide) (av_cons (v 2) av_nil) ⟨q, hq, rfl, rfl⟩ rfl) (by rw [hf]))))⟩
  · have hs := size_b hc
    have hm := emod_b (a := i) hs.1
    obtain ⟨s', hL⟩ := loop y (.int i) my (i % sizeIn c).toNat 0 (span 0 (i % sizeIn c)) .no (by rw [span_len]; omega)
    rw [Nat.zero_add] at hL
    exact ⟨_, .rt, ss_cons (sv_need_t F2 rfl (show (3:Nat) ≤ 4 by decide) (ev_im F1 rfl (Nat.le_refl _) (v 0) (v 1) hc hp (move_yes my))) (ss_cons (sv_need_t F2 rfl (show (3:Nat) ≤ 4 by decide) (ev_call F4 rfl (show (1:Nat) ≤ 4 by decide) (av_cons (v 2) av_nil) ⟨.int i, hq, rfl, rfl⟩ rfl))
      (ss_cons (sv_set (n := 3) rfl (.inl rfl) (ev_glT hI hIK)) (ss_cons (sv_for rfl (IV.to (iv_rng1 (ev_mod (v 2) (ev_call F5 rfl (show (3:Nat) ≤ 4 by decide) (av_cons (v 0) av_nil) ⟨c, hc, rfl, rfl⟩ rfl) (by omega)) (by omega) (by omega) b.range) (rng_span1 _)) (bv_one rfl (.inl rfl)) hL) (ss_one (sv_ret (v 3))))))⟩
theorem scTB : FnScope pTn pTn (defScope (topS 31)) := ⟨rfl, rfl, rfl, by decide +kernel, rfl, by decide +kernel, by decide +kernel⟩
theorem b_tb (F1 : FnV P w K mg base 4 "is_move" nIM R_im) (F2 : FnV P w K mg base 3 "need" nNeed (R_need C)) (F3 : FnV P w K mg base 3 "turned_in" pTn R_tn) : Bod P w K mg base pTn 31 4 pTn (R_mm C "move" "by" fun c y x => pr (turnedM c y x)) := by
  intro args r h hl
  obtain ⟨c, p, q, hc, hp, hq, rfl, h⟩ := h
  rcases h with ⟨hf, rfl⟩ | ⟨ht, hf, rfl⟩ | ⟨y, x, rfl, rfl, my, mx, rfl⟩
  · exact ⟨_, .xc, ss_stop (sv_need_f F2 rfl (show (3:Nat) ≤ 4 by decide) (ev_im F1 rfl (Nat.le_refl _) (v 0) (v 1) hc hp hf))⟩
  · exact ⟨_, .xc, ss_cons (sv_need_t F2 rfl (show (3:Nat) ≤ 4 by decide) (ev_im F1 rfl (Nat.le_refl _) (v 0) (v 1) hc hp ht)) (ss_stop (sv_need_f F2 rfl (show (3:Nat) ≤ 4 by decide) (ev_im F1 rfl (Nat.le_refl _) (v 0) (v 2) hc hq hf)))⟩
  · exact ⟨_, .rt, ss_cons (sv_need_t F2 rfl (show (3:Nat) ≤ 4 by decide) (ev_im F1 rfl (Nat.le_refl _) (v 0) (v 1) hc hp (move_yes my))) (ss_cons (sv_need_t F2 rfl (show (3:Nat) ≤ 4 by decide) (ev_im F1 rfl (Nat.le_refl _) (v 0) (v 2) hc hq (move_yes mx)))
      (ss_one (sv_ret (ev_call F3 rfl (show (3:Nat) ≤ 4 by decide) (av_cons (v 0) (av_cons (v 1) (av_cons (v 2) av_nil))) ⟨c, y, x, hc, my, mx, rfl, rfl⟩ rfl))))⟩
theorem scTk : FnScope nBA nBA (defScope (topS 32)) := ⟨rfl, rfl, rfl, by decide +kernel, rfl, by decide +kernel, by decide +kernel⟩
abbrev R_tk (C : Addr) : Rel := fun args r => ∃ (c : Clk) (p q : PV), OKc c ∧ Fine p ∧ q.ty ≠ "?" ∧ args = [clkV c, p, q] ∧ ((isMoveV c p = false ∧ r = badR C "move") ∨ (isMoveV c p = true ∧ isBelV c.1 q = false ∧ r = badR C "beat") ∨ ∃ y i, p = pr y ∧ q = .int i ∧ Mv c y ∧ 0 ≤ i ∧ i < c.1 ∧ r = .ok (.int (beatA c y i)))
theorem b_tk (F1 : FnV P w K mg base 4 "is_move" nIM R_im) (F2 : FnV P w K mg base 3 "need" nNeed (R_need C)) (F3 : FnV P w K mg base 3 "is_below" nBel R_bel) (F4 : FnV P w K mg base 3 "beat_after" nBA R_ba) : Bod P w K mg base nBA 32 4 nBA (R_tk C) := by
  intro args r h hl
  obtain ⟨c, p, q, hc, hp, hq, rfl, h⟩ := h
  rcases h with ⟨hf, rfl⟩ | ⟨ht, hf, rfl⟩ | ⟨y, i, rfl, rfl, my, h1, h2, rfl⟩
  · exact ⟨_, .xc, ss_stop (sv_need_f F2 rfl (show (3:Nat) ≤ 4 by decide) (ev_im F1 rfl (Nat.le_refl _) (v 0) (v 1) hc hp hf))⟩
  · exact ⟨_, .xc, ss_cons (sv_need_t F2 rfl (show (3:Nat) ≤ 4 by decide) (ev_im F1 rfl (Nat.le_refl _) (v 0) (v 1) hc hp ht)) (ss_stop (sv_need_f F2 rfl (show (3:Nat) ≤ 4 by decide) (ev_ib F3 rfl (show (3:Nat) ≤ 4 by decide) (v 2) (ev_ixT (n := 0) (v 0) ev_int rfl rfl) hq hf)))⟩
  · exact ⟨_, .rt, ss_cons (sv_need_t F2 rfl (show (3:Nat) ≤ 4 by decide) (ev_im F1 rfl (Nat.le_refl _) (v 0) (v 1) hc hp (move_yes my))) (ss_cons (sv_need_t F2 rfl (show (3:Nat) ≤ 4 by decide) (ev_ib F3 rfl (show (3:Nat) ≤ 4 by decide) (v 2) (ev_ixT (n := 0) (v 0) ev_int rfl rfl) hq (bel_yes h1 h2)))
      (ss_one (sv_ret (ev_call F4 rfl (show (3:Nat) ≤ 4 by decide) (av_cons (v 0) (av_cons (v 1) (av_cons (v 2) av_nil))) ⟨c, y, i, hc, my, rfl, rfl⟩ rfl))))⟩
theorem scNO : FnScope nCM nCM (defScope (topS 33)) := ⟨rfl, rfl, rfl, by decide +kernel, rfl, by decide +kernel, by decide +kernel⟩
theorem b_no (F1 : FnV P w K mg base 4 "is_move" nIM R_im) (F2 : FnV P w K mg base 3 "need" nNeed (R_need C)) (F3 : FnV P w K mg base 1 "number_in" nCM R_num) : Bod P w K mg base nCM 33 4 nCM (R_m C "move" fun c y => .int (y.2 * c.1 + y.1)) := by
  intro args r h hl
  obtain ⟨c, p, hc, hp, rfl, h⟩ := h
  rcases h with ⟨hf, rfl⟩ | ⟨y, rfl, my, rfl⟩
  · exact ⟨_, .xc, ss_stop (sv_need_f F2 rfl (show (3:Nat) ≤ 4 by decide) (ev_im F1 rfl (Nat.le_refl _) (v 0) (v 1) hc hp hf))⟩
  · exact ⟨_, .rt, ss_cons (sv_need_t F2 rfl (show (3:Nat) ≤ 4 by decide) (ev_im F1 rfl (Nat.le_refl _) (v 0) (v 1) hc hp (move_yes my)))
      (ss_one (sv_ret (ev_call F3 rfl (show (1:Nat) ≤ 4 by decide) (av_cons (v 0) (av_cons (v 1) av_nil)) ⟨c, y, hc, rfl, rfl⟩ rfl)))⟩
abbrev nMA : List Str := ["clock", "number"]
theorem scMA : FnScope nMA nMA (defScope (topS 34)) := ⟨rfl, rfl, rfl, by decide +kernel, rfl, by decide +kernel, by decide +kernel⟩
theorem b_ma (F1 : FnV P w K mg base 3 "is_below" nBel R_bel) (F2 : FnV P w K mg base 3 "need" nNeed (R_need C)) (F3 : FnV P w K mg base 3 "size_in" ["clock"] R_size) : Bod P w K mg base nMA 34 3 nMA (R_b C "number" sizeIn fun c i => pr (i % c.1, i / c.1)) := by
  intro args r h hl
  obtain ⟨c, p, hc, hp, rfl, h⟩ := h
  have := hc.b1; have := hc.b2
  rcases h with ⟨hf, rfl⟩ | ⟨i, rfl, h1, h2, rfl⟩
  · exact ⟨_, .xc, ss_stop (sv_need_f F2 rfl (Nat.le_refl _) (ev_ib F1 rfl (Nat.le_refl _) (v 1) (ev_call F3 rfl (Nat.le_refl _) (av_cons (v 0) av_nil) ⟨c, hc, rfl, rfl⟩ rfl) hp hf))⟩
  · exact ⟨_, .rt, ss_cons (sv_need_t F2 rfl (Nat.le_refl _) (ev_ib F1 rfl (Nat.le_refl _) (v 1) (ev_call F3 rfl (Nat.le_refl _) (av_cons (v 0) av_nil) ⟨c, hc, rfl, rfl⟩ rfl) hp (bel_yes h1 h2)))
      (ss_one (sv_ret (ev_tup (av_cons (ev_mod (v 1) (ev_ixT (n := 0) (v 0) ev_int rfl rfl) (by omega)) (av_cons (ev_fdiv (v 1) (ev_ixT (n := 0) (v 0) ev_int rfl rfl) ⟨by omega, by omega⟩) av_nil)) (show 2 ≤ 100000 by decide))))⟩
theorem scAM : FnScope ["clock"] ["clock"] (defScope (topS 35)) := ⟨rfl, rfl, rfl, by decide +kernel, rfl, by decide +kernel, by decide +kernel⟩
theorem b_am (F : FnV P w K mg base 3 "every_move" ["clock"] R_em) : Bod P w K mg base ["clock"] 35 3 ["clock"] R_em := by
  intro args r h hl
  obtain ⟨c, hc, rfl, rfl⟩ := h
  exact ⟨_, .rt, ss_one (sv_ret (ev_call F rfl (Nat.le_refl _) (av_cons (v 0) av_nil) ⟨c, hc, rfl, rfl⟩ rfl))⟩
end
end K01
namespace VL
open PySem PySem.Spec PyProof.Rows L2
variable [Tb]
theorem cv_eqP {G : Gam} {ρ : List Sl} {a b : Expr} {pos : Pos} {z w : Int × Int} (ha : EV G ρ a (pr z)) (hb : EV G ρ b (pr w)) (hm : behindInMarks .Eq b = false := by first | rfl | exact nobehind _ (by decide) (by decide)) : CV G ρ (.Compare a [.Eq] [b] pos) (decide (z = w)) := by
  have key : ∀ X, Fits G X → ∀ (U : Und) (B : Bd) (σ : L2.St) (H : Hp) (R : V → Hp → Prop), EnvR G.K U B H σ ρ → (∀ H', Ex H H' → R (.bl (decide (z = w))) H') → wE X a σ H fun x H1 => wE X b σ H1 fun y H2 => rEqD X.K x y H2 R := fun X hX U B σ H R E q =>
    ha X hX _ _ _ _ _ E fun v H1 e1 r1 => hb X hX _ _ _ _ _ (E.mono e1) fun u H2 e2 r2 => by
      rw [hX.K]
      refine ⟨prDat z, prDat w, dp_pr (r1.ext e2), dp_pr r2, prDat_shaped z, prDat_shaped w, ?_⟩
      rw [prDat_eqv]
      exact q H2 (e1.trans e2)
  have hu : ∀ X, Fits G X → X.A.units + 64 < cLine := fun X hX => by
    have := hX.roomH.un
    omega
  exact ⟨fun X hX U B σ H Q E q => of_pe (pe_cmpR (op_eqD (hu X hX)) pe_w pe_w hm) (key X hX U B σ H Q E fun H' e => q _ H' e .b), fun X hX U B σ H Q E q => of_pt (pt_cmpR (op_eqD (hu X hX)) pe_w pe_w hm) (key X hX U B σ H _ E fun H' e => ⟨_, rfl, q H' e⟩)⟩
end VL
namespace K01
open PySem PySem.Spec PyProof.Rows L2 VL
variable [Tb]
/-! ### the feed -/
structure Feed where
  i : Nat
  c : Int
  s : Int
  ns : List Int
def fdV (f : Feed) : List PV := [.int (f.i : Int), .int f.c, .int f.s, .lst (f.ns.map PV.int)]
def seedF (ns : List Int) : Nat → Int
  | 0 => 0
  | k + 1 => (seedF ns k * 40014 + ns.getD k 0 * 39373 + 41 * (k : Int) + 17) % 2147483563
def feed0 (ns : List Int) : Feed := ⟨0, 0, seedF ns ns.length, ns⟩
def loadF (f : Feed) : Feed := if f.c = 0 ∧ f.i < f.ns.length then { f with i := f.i + 1, c := if 10 ^ 18 ≤ f.ns.getD f.i 0 then f.ns.getD f.i 0 else f.c } else f
def stepS (s : Int) : Int := s * 16807 % 2147483647
def pickF (f : Feed) (m : Int) : Int × Feed :=
  if 0 < (loadF f).c then ((loadF f).c % m, { loadF f with c := (loadF f).c / m })
  else ((stepS (loadF f).s / 16 * 53668 + stepS (loadF f).s) % 2147483549 / 8 % m, { loadF f with s := stepS (loadF f).s })
theorem pick_b (f : Feed) {m : Int} (h : 1 ≤ m) : 0 ≤ (pickF f m).1 ∧ (pickF f m).1 < m := by
  unfold pickF
  split
  · exact emod_b h
  · exact emod_b h
section
variable {P : Program} {w : World} {K : PySem.W.Frag} {mg : Str → Option Value} {base : Heap} {C : Addr}
abbrev nFeed : List Str := ["_law_script", "_law_seed", "_law_k"]
theorem scFeed : FnScope nFeed ["_law_script"] (defScope (topS 37)) := ⟨rfl, rfl, rfl, by decide +kernel, rfl, by decide +kernel, by decide +kernel⟩
abbrev R_feed : RelN := fun args xs => ∃ ns : List Int, ns.length ≤ 1000 ∧ args = [.lst (ns.map PV.int)] ∧ xs = fdV (feed0 ns)
theorem fn_feed (A : At K mg "_law_feed" 37 ["_law_script"]) (b : Bt mg) : FnVN P w K mg base 1 "_law_feed" ["_law_script"] R_feed := by
  obtain ⟨f, fd, F, hm, hb⟩ := A.ex
  refine fn_defN F scFeed hm hb fun args xs h hl => ?_
  obtain ⟨ns, hn, rfl, rfl⟩ := h
  have loop : ∀ (n j : Nat) (s : Sl), j + n = ns.length → ∃ s', LoopV (gam P w K mg base nFeed (topS 37) 0 true) (.one 2) (forBody (nthS (defBody (topS 37)) 1)) ((span (j : Int) (ns.length : Int)).map PV.int) [.val (.lst (ns.map PV.int)), .val (.int (seedF ns j)), s] (.nx [.val (.lst (ns.map PV.int)), .val (.int (seedF ns ns.length)), s']) := by
    intro n
    induction n with
    | zero =>
      intro j s hj
      obtain rfl : j = ns.length := by omega
      rw [span_nil (Int.le_refl _)]
      exact ⟨s, .nil⟩
    | succ n ih =>
      intro j s hj
      rw [span_cons (by omega)]
      obtain ⟨s', hL⟩ := ih (j + 1) (.val (.int (j : Int))) (by omega)
      refine ⟨s', .next trivial (ss_one (SV.to (sv_set (n := 1) rfl (.inl rfl) (ev_mod (ev_toint (ev_add (ev_add (ev_add (ev_mul (v 1) ev_int (.inr (by decide))) (ev_mul (ev_ixL (n := j) (p := .int (ns.getD j 0)) (lv_val (v 0)) (v 2) rfl (by rw [List.getElem?_map, List.getD_eq_getElem?_getD, List.getElem?_eq_getElem (by omega)]; rfl)) ev_int (.inr (by decide)))) (ev_mul ev_int (v 2) (.inl (by decide)))) ev_int) b.int) ev_int (by decide))) rfl)) ?_⟩
      exact hL
  obtain ⟨s', hL⟩ := loop ns.length 0 .no (by omega)
  refine ss_cons (sv_set (n := 1) rfl (.inl rfl) ev_int) (ss_cons (sv_for rfl (IV.to (iv_rng1 (EV.to (ev_len (qv_l (lv_val (v 0))) b.len) (by rw [List.length_map])) (by omega) (by omega) b.range) (rng_span1 _)) (bv_one rfl (.inl rfl)) hL) (ss_one (sv_retN (nv_lst (av_cons ev_int (av_cons ev_int (av_cons (v 1) (av_cons (v 0) av_nil)))) (show 4 ≤ 100000 by decide)))))
abbrev nPick : List Str := ["_law_feed_here", "_law_many_here", "_law_cell", "_law_told"]
abbrev pPick : List Str := ["_law_feed_here", "_law_many_here"]
theorem scPick : FnScope nPick pPick (defScope (topS 38)) := ⟨rfl, rfl, rfl, by decide +kernel, rfl, by decide +kernel, by decide +kernel⟩
abbrev R_pick : RelM := fun xs args p xs' => ∃ (f : Feed) (m : Int), 1 ≤ m ∧ m < 1073741824 ∧ xs = fdV f ∧ args = [.int m] ∧ p = .int (pickF f m).1 ∧ xs' = fdV (pickF f m).2
theorem fn_pick (A : At K mg "_law_pick" 38 pPick) (b : Bt mg) : FnVM P w K mg base 1 "_law_pick" pPick R_pick := by
  obtain ⟨g, fd, F, hm, hb⟩ := A.ex
  refine fn_defM F scPick hm hb fun a xs args p xs' h hl => ?_
  obtain ⟨f, m, h1, h2, rfl, rfl, rfl, rfl⟩ := h
  have first : ∃ s, SV (gam P w K mg base nPick (topS 38) 0 true) [.ow (some a) (fdV f), .val (.int m), .no, .no] (nthS (defBody (topS 38)) 0) (.nx [.ow (some a) (fdV (loadF f)), .val (.int m), s, .no]) := by
    by_cases h0 : f.c = 0
    · by_cases hi : f.i < f.ns.length
      · have ef : loadF f = { f with i := f.i + 1, c := if 10 ^ 18 ≤ f.ns.getD f.i 0 then f.ns.getD f.i 0 else f.c } := if_pos ⟨h0, hi⟩
        rw [ef]
        refine ⟨.val (.int (f.ns.getD f.i 0)), sv_if_t (tv_w (wv_and_t (TV.to (cv_eqi (ev_ixL (n := 1) (lo 0) ev_int rfl rfl) ev_int).tv (by simp [h0])) (wv_and1 (TV.to (cv_lt (ev_ixL (n := 0) (lo 0) ev_int rfl rfl) (EV.to (ev_len (qv_l (lv_val (ev_ixL (n := 3) (lo 0) ev_int rfl rfl))) b.len) (by rw [List.length_map]))).tv (by simp [hi]))))) ?_⟩
        refine ss_cons (sv_set (n := 2) rfl (.inl rfl) (ev_ixL (n := f.i) (p := .int (f.ns.getD f.i 0)) (lv_val (ev_ixL (n := 3) (lo 0) ev_int rfl rfl)) (ev_ixL (n := 0) (lo 0) ev_int rfl rfl) rfl (by rw [List.getElem?_map, List.getD_eq_getElem?_getD, List.getElem?_eq_getElem hi]; rfl))) ?_
        refine ss_cons (sv_setAt (n := 0) (m := 0) rfl (.inl rfl) rfl (ev_add (ev_ixL (n := 0) (lo 0) ev_int rfl rfl) ev_int) ev_int rfl (show 0 < 4 by decide)) ?_
        by_cases hc : 10 ^ 18 ≤ f.ns.getD f.i 0
        · rw [if_pos hc]
          exact ss_one (sv_if_t (TV.to (cv_ge (v 2) (ev_pow ev_int ev_int ⟨by decide, by decide, by decide⟩)).tv (decide_eq_true hc)) (ss_one (SV.to (sv_setAt (n := 0) (m := 1) (p := .int (f.ns.getD f.i 0)) rfl (.inl rfl) rfl (v 2) ev_int rfl (show 1 < 4 by decide)) rfl)))
        · rw [if_neg hc]
          exact ss_one (sv_if_f (TV.to (cv_ge (v 2) (ev_pow ev_int ev_int ⟨by decide, by decide, by decide⟩)).tv (decide_eq_false hc)) ss_nil)
      · have ef : loadF f = f := if_neg fun z => hi z.2
        rw [ef]
        exact ⟨.no, sv_if_f (tv_w (wv_and_t (TV.to (cv_eqi (ev_ixL (n := 1) (lo 0) ev_int rfl rfl) ev_int).tv (by simp [h0])) (wv_and1 (TV.to (cv_lt (ev_ixL (n := 0) (lo 0) ev_int rfl rfl) (EV.to (ev_len (qv_l (lv_val (ev_ixL (n := 3) (lo 0) ev_int rfl rfl))) b.len) (by rw [List.length_map]))).tv (by simp; omega))))) ss_nil⟩
    · have ef : loadF f = f := if_neg fun z => h0 z.1
      rw [ef]
      exact ⟨.no, sv_if_f (tv_w (wv_and_f (TV.to (cv_eqi (ev_ixL (n := 1) (lo 0) ev_int rfl rfl) ev_int).tv (by simp [h0])))) ss_nil⟩
  obtain ⟨s, h0⟩ := first
  unfold pickF
  generalize loadF f = g at h0 ⊢
  by_cases hc : 0 < g.c
  · rw [if_pos hc]
    refine ⟨[.ow (some a) (fdV { g with c := g.c / m }), .val (.int m), s, .val (.int (g.c % m))], rfl, ss_cons h0 (ss_stop (sv_if_t (TV.to (cv_gt (ev_ixL (n := 1) (lo 0) ev_int rfl rfl) ev_int).tv (decide_eq_true hc)) ?_))⟩
    exact ss_cons (sv_set (n := 3) rfl (.inl rfl) (ev_mod (ev_toint (ev_ixL (n := 1) (lo 0) ev_int rfl rfl) b.int) (v 1) (by omega)))
      (ss_cons (sv_setAt (n := 0) (m := 1) rfl (.inl rfl) rfl (ev_fdiv (ev_ixL (n := 1) (lo 0) ev_int rfl rfl) (v 1) ⟨by omega, h2⟩) ev_int rfl (show 1 < 4 by decide)) (ss_one (sv_reto (v 3))))
  · rw [if_neg hc]
    refine ⟨[.ow (some a) (fdV { g with s := stepS g.s }), .val (.int m), s, .no], rfl, ss_cons h0 (ss_cons (sv_if_f (TV.to (cv_gt (ev_ixL (n := 1) (lo 0) ev_int rfl rfl) ev_int).tv (decide_eq_false hc)) ss_nil) ?_)⟩
    refine ss_cons (sv_setAt (n := 0) (m := 2) (p := .int (stepS g.s)) rfl (.inl rfl) rfl (ev_mod (ev_toint (ev_mul (ev_ixL (n := 2) (lo 0) ev_int rfl rfl) ev_int (.inr (by decide))) b.int) ev_int (by decide)) ev_int rfl (show 2 < 4 by decide)) (ss_one (sv_reto ?_))
    exact ev_mod (ev_fdiv (ev_mod (ev_toint (ev_add (ev_mul (ev_fdiv (ev_ixL (n := 2) (lo 0) ev_int rfl rfl) ev_int ⟨by decide, by decide⟩) ev_int (.inr (by decide))) (ev_ixL (n := 2) (lo 0) ev_int rfl rfl)) b.int) ev_int (by decide)) ev_int ⟨by decide, by decide⟩) (v 1) (by omega)
abbrev nLPow : List Str := ["_law_base", "_law_many_here", "_law_beats", "_law_told", "_law_k"]
abbrev pLPow : List Str := ["_law_base", "_law_many_here", "_law_beats"]
theorem scLPow : FnScope nLPow pLPow (defScope (topS 39)) := ⟨rfl, rfl, rfl, by decide +kernel, rfl, by decide +kernel, by decide +kernel⟩
abbrev R_lpow : Rel := fun args r => ∃ (x : Int) (t : Nat) (m : Int), (-(2 ^ 64) < x ∧ x < 2 ^ 64) ∧ 1 ≤ m ∧ m ≤ 100 ∧ t < 2 ^ 60 ∧ args = [.int x, .int t, .int m] ∧ r = .ok (.int (x ^ t % m))
theorem fn_lpow (A : At K mg "_law_power" 39 pLPow) (b : Bt mg) : FnV P w K mg base 1 "_law_power" pLPow R_lpow := by
  refine fn_at A scLPow fun args r h hl => ?_
  obtain ⟨x, t, m, hx, hm1, hm2, ht, rfl, rfl⟩ := h
  have loop : ∀ (T : PV) (its : List Int) (j : Nat) (s : Sl), ∃ s', LoopV (gam P w K mg base nLPow (topS 39) 0 true) (.one 4) (forBody (nthS (defBody (topS 39)) 1)) (its.map PV.int) [.val (.int x), .val T, .val (.int m), .val (.int (x ^ j % m)), s] (.nx [.val (.int x), .val T, .val (.int m), .val (.int (x ^ (j + its.length) % m)), s']) := by
    intro T its
    induction its with
    | nil => exact fun j s => ⟨s, .nil⟩
    | cons i its ih =>
      intro j s
      obtain ⟨s', hL⟩ := ih (j + 1) (.val (.int i))
      rw [show j + 1 + its.length = j + (i :: its).length by rw [List.length_cons]; omega] at hL
      have e : x ^ j % m * x % m = x ^ (j + 1) % m := by rw [Int.pow_succ]; exact mul_cong (Int.emod_emod_of_dvd _ (Int.dvd_refl m)) rfl
      refine ⟨s', .next trivial (ss_one (SV.to (sv_set (n := 3) rfl (.inl rfl) (EV.to (ev_mod (ev_toint (ev_mul (v 3) (v 0) (.inr hx)) b.int) (v 2) (by omega)) (by rw [e]))) rfl)) hL⟩
  obtain ⟨s', hL⟩ := loop (.int t) (span 0 t) 0 .no
  rw [show 0 + (span 0 (t : Int)).length = t by rw [span_len]; omega, Int.pow_zero] at hL
  exact ⟨_, .rt, ss_cons (sv_set (n := 3) rfl (.inl rfl) (ev_mod ev_int (v 2) (by omega))) (ss_cons (sv_for rfl (IV.to (iv_rng1 (v 1) (by omega) (by omega) b.range) (rng_span1 _)) (bv_one rfl (.inl rfl)) hL) (ss_one (sv_ret (v 3))))⟩
end
end K01
namespace K01
open PySem PySem.Spec PyProof.Rows L2 VL
variable [Tb]
/-! ### constant tuples -/
mutual
def cEq : Nat → Expr → PV → Bool
  | _, .Constant (.int i) _ _, .int j => decide (i = j)
  | _, .Constant (.str z) _ _, .str y => decide (z = y)
  | _, .Constant (.bool z) _ _, .bl y => z == y
  | _, .Constant .none _ _, .non => true
  | n + 1, .Tuple es _ _, .tup ps => decide (ps.length ≤ 100000) && cEqs n es ps
  | _, _, _ => false
def cEqs : Nat → List Expr → List PV → Bool
  | _, [], [] => true
  | n, e :: es, p :: ps => cEq n e p && cEqs n es ps
  | _, _, _ => false
end
theorem cEq_star {n : Nat} {e : Expr} {p : PV} (h : cEq n e p = true) (es : List Expr) : ∀ env, starEach (e :: es) env = (false, eval e env) :: starEach es env := by
  intro env
  cases e <;> first | rfl | (unfold cEq at h; cases h)
theorem ev_consts {G : Gam} {ρ : List Sl} : ∀ n, (∀ e p, cEq n e p = true → EV G ρ e p) ∧ (∀ es ps, cEqs n es ps = true → AV G ρ es ps) := by
  have two : ∀ n, (∀ e p, cEq n e p = true → EV G ρ e p) → ∀ es ps, cEqs n es ps = true → AV G ρ es ps := by
    intro n h es
    induction es with
    | nil =>
      intro ps e
      cases ps with
      | nil => exact av_nil
      | cons p ps => unfold cEqs at e; cases e
    | cons e es ih =>
      intro ps z
      cases ps with
      | nil => unfold cEqs at z; cases z
      | cons p ps =>
        unfold cEqs at z
        obtain ⟨h1, h2⟩ := Bool.and_eq_true_iff.mp z
        exact av_cons (h e p h1) (ih ps h2) (cEq_star h1 es)
  have con : ∀ n i k pos p, cEq n (.Constant i k pos) p = true → EV G ρ (.Constant i k pos) p := by
    intro n i k pos p h
    cases i <;> cases p <;> unfold cEq at h <;> first | cases h; done | (have e := of_decide_eq_true h; subst e; first | exact ev_int | exact ev_str) | (have e := eq_of_beq h; subst e; exact ev_bl) | exact ev_non
  intro n
  induction n with
  | zero =>
    have one : ∀ e p, cEq 0 e p = true → EV G ρ e p := by
      intro e p h
      cases e <;> first | exact con _ _ _ _ _ h | (unfold cEq at h; cases h)
    exact ⟨one, two 0 one⟩
  | succ n ih =>
    have one : ∀ e p, cEq (n + 1) e p = true → EV G ρ e p := by
      intro e p h
      cases e with
      | Constant i k pos => exact con _ _ _ _ _ h
      | Tuple es k pos =>
        cases p with
        | tup ps =>
          unfold cEq at h
          obtain ⟨h1, h2⟩ := Bool.and_eq_true_iff.mp h
          exact ev_tup (ih.2 es ps h2) (of_decide_eq_true h1)
        | _ => unfold cEq at h; cases h
      | _ => unfold cEq at h; cases h
    exact ⟨one, two (n + 1) one⟩
theorem ev_const {G : Gam} {ρ : List Sl} {e : Expr} {p : PV} (n : Nat) (h : cEq n e p = true) : EV G ρ e p := (ev_consts n).1 e p h
theorem getD_some {α : Type} {xs : List α} {i : Nat} (h : i < xs.length) (d : α) : xs[i]? = some (xs.getD i d) := by
  rw [List.getD_eq_getElem?_getD, List.getElem?_eq_getElem h]
  rfl
theorem getD_mem {α : Type} {xs : List α} {i : Nat} (h : i < xs.length) (d : α) : xs.getD i d ∈ xs := by
  rw [List.getD_eq_getElem?_getD, List.getElem?_eq_getElem h]
  exact List.getElem_mem _
theorem map_get {α : Type} {f : α → PV} {xs : List α} {i : Nat} (h : i < xs.length) (d : α) : (xs.map f)[i]? = some (f (xs.getD i d)) := by
  rw [List.getElem?_map, getD_some h d]
  rfl
section
variable {P : Program} {w : World} {K : PySem.W.Frag} {mg : Str → Option Value} {base : Heap} {C : Addr}
theorem em_pick {G : Gam} {ρ : List Sl} {e : Expr} {p1 p2 pos : Pos} {f : Feed} {m : Int} {pin : Option Addr} (F : G.FnM 1 "_law_pick" pPick R_pick) (hm : EV G ρ e (.int m)) (h1 : 1 ≤ m) (h2 : m < 1073741824) (n : Nat) (hN : G.N[n]? = some "_law_feed_here" := by rfl) (hn : ρ[n]? = some (.ow pin (fdV f)) := by rfl) (hc : G.calm = true := by rfl) (hk : 1 ≤ G.k := by exact Nat.le_of_ble_eq_true rfl) (hv : Vis G.sc "_law_feed_here" := by first | exact .inl rfl | exact .inr (.inl rfl) | exact .inr (.inr rfl))
    (hg : G.sc.names.lookup ("_law_pick" : Str) = some .globalImplicit := by first | rfl | decide +kernel) (hs : ∀ env, starEach [.Name "_law_feed_here" p2, e] env = (false, eval (.Name "_law_feed_here" p2) env) :: starEach [e] env := by intro _; rfl)
    (hs2 : ∀ env, starEach [e] env = (false, eval e env) :: starEach [] env := by intro _; rfl) (hpl : ∀ env, (backTo pos (starEach [e] env)).any (·.1) = false := by intro _; rfl) :
    EM G ρ (.Call (.Name "_law_pick" p1) [.Name "_law_feed_here" p2, e] [] pos) (.int (pickF f m).1) (ρ.set n (.ow pin (fdV (pickF f m).2))) :=
  em_call F hc hk hN hv hn (av_cons hm av_nil hs2) ⟨f, m, h1, h2, rfl, rfl, rfl, rfl⟩ rfl hg (by decide) (by decide) (by decide) hs hpl
theorem EM.to {G : Gam} {ρ ρ1 : List Sl} {e : Expr} {p q : PV} (h : EM G ρ e p ρ1) (z : p = q) : EM G ρ e q ρ1 := z ▸ h
theorem TM.to {G : Gam} {ρ ρ1 : List Sl} {e : Expr} {p q : Bool} (h : TM G ρ e p ρ1) (z : p = q) : TM G ρ e q ρ1 := z ▸ h
/-! ### the drawn clock -/
def flatB (k : Int) : Bool := ([4, 9, 25, 49] : List Int).all fun s => !decide (k % s = 0)
def flatsF (top : Int) : List Int := (span 1 (top + 1)).filter flatB
def primesT : List Int := [2, 3, 5, 7, 11, 13, 17, 19, 23, 29, 31, 37, 41, 43, 47, 53, 59]
def topsT : List Int := [12, 22, 30, 60]
def goodF (n p : Int) : List Int := (span 1 (n + 1)).filter fun r => decide (r ^ p.toNat % n = 1 % n)
def primeAt (k : Int) : Int := primesT.getD k.toNat 0
def fits2 (n : Int) (k z : Int) : Bool := !decide (n % primeAt k = 0) && decide (z * primeAt k ≤ 60)
def stepC (n : Int) (st : List (Int × Int) × Int × Feed) (k : Int) : List (Int × Int) × Int × Feed :=
  if fits2 n k st.2.1 then
    if (pickF st.2.2 3).1 < 2 then
      (st.1 ++ [(primeAt k, (goodF n (primeAt k)).getD (pickF (pickF st.2.2 3).2 ((goodF n (primeAt k)).length : Int)).1.toNat 0)], st.2.1 * primeAt k, (pickF (pickF st.2.2 3).2 ((goodF n (primeAt k)).length : Int)).2)
    else (st.1, st.2.1, (pickF st.2.2 3).2)
  else st
def menuT : List Clk := [(5, [(2, 4), (3, 1)]), (7, [(3, 2)]), (15, [(2, 4)]), (3, [(2, 2)]), (7, [(2, 6), (3, 4)]), (6, []), (13, [(3, 9)]), (1, [(2, 1), (3, 1)]), (11, [(5, 4)]), (21, [(2, 13)]), (3, [(2, 2), (5, 1)]), (1, []), (14, [(3, 11)]), (15, [(2, 14)]), (19, [(3, 7)]), (3, [(2, 1), (5, 1)])]
def fTop (f : Feed) : Int × Feed := pickF f 4
def topF (f : Feed) : Int := topsT.getD (fTop f).1.toNat 0
def fBeats (f : Feed) : Int × Feed := pickF (fTop f).2 ((flatsF (topF f)).length : Int)
def beatsF (f : Feed) : Int := (flatsF (topF f)).getD (fBeats f).1.toNat 0
def fLo1 (f : Feed) : Int × Feed := pickF (fBeats f).2 3
def fLo2 (f : Feed) : Int × Feed := pickF (fLo1 f).2 9
def anyC (f : Feed) : List (Int × Int) × Int × Feed := (span ((fLo1 f).1 * (fLo2 f).1) 17).foldl (stepC (beatsF f)) ([], beatsF f, (fLo2 f).2)
def clockF (f : Feed) : Clk × Feed :=
  if (pickF f 2).1 = 0 then (menuT.getD (pickF (pickF f 2).2 16).1.toNat (1, []), (pickF (pickF f 2).2 16).2)
  else ((beatsF (pickF f 2).2, (anyC (pickF f 2).2).1), (anyC (pickF f 2).2).2.2)
theorem tops_ok : ∀ i : Nat, i < 4 → 12 ≤ topsT.getD i 0 ∧ topsT.getD i 0 ≤ 60 ∧ 0 < (flatsF (topsT.getD i 0)).length := by decide +kernel
theorem primesT_ok : ∀ i : Nat, i < 17 → 2 ≤ primesT.getD i 0 ∧ primesT.getD i 0 ≤ 59 := by decide +kernel
theorem top_b (f : Feed) : (fTop f).1.toNat < 4 ∧ 12 ≤ topF f ∧ topF f ≤ 60 ∧ 0 < (flatsF (topF f)).length := by
  have h := pick_b f (m := 4) (by decide)
  have hlt : (fTop f).1.toNat < 4 := by unfold fTop; omega
  exact ⟨hlt, tops_ok _ hlt⟩
theorem flats_len (t : Int) (h : t ≤ 60) : (flatsF t).length ≤ 60 := by
  refine Nat.le_trans (List.length_filter_le _ _) ?_
  rw [span_len]
  omega
theorem beats_b (f : Feed) : (fBeats f).1.toNat < (flatsF (topF f)).length ∧ 1 ≤ beatsF f ∧ beatsF f ≤ 60 := by
  obtain ⟨h1, h2, h3, h4⟩ := top_b f
  have h := pick_b (fTop f).2 (m := ((flatsF (topF f)).length : Int)) (by omega)
  have hlt : (fBeats f).1.toNat < (flatsF (topF f)).length := by unfold fBeats; omega
  have := mem_span.mp (List.mem_filter.mp (getD_mem hlt 0)).1
  exact ⟨hlt, by unfold beatsF; omega, by unfold beatsF; omega⟩
theorem good_len (n p : Int) (h : n ≤ 60) : (goodF n p).length ≤ 60 := by
  refine Nat.le_trans (List.length_filter_le _ _) ?_
  rw [span_len]
  omega
theorem good_pos {n p : Int} (h : 1 ≤ n) : 0 < (goodF n p).length := by
  refine List.length_pos_of_mem (a := 1) (List.mem_filter.mpr ⟨mem_span.mpr (by omega), ?_⟩)
  rw [Int.one_pow]
  simp
theorem mem_good {n p r : Int} (h : r ∈ goodF n p) : 1 ≤ r ∧ r ≤ n ∧ r ^ p.toNat % n = 1 % n := by
  obtain ⟨h1, h2⟩ := List.mem_filter.mp h
  have := mem_span.mp h1
  exact ⟨this.1, by omega, of_decide_eq_true h2⟩
/-! ### it is a clock -/
def okB (c : Clk) : Bool := decide (1 ≤ c.1) && decide (c.1 ≤ 60) && (c.2.all fun m => decide (2 ≤ m.1) && decide (m.1 ≤ 60) && decide (1 ≤ m.2) && decide (m.2 ≤ 60) && decide (m.2 ^ m.1.toNat % c.1 = 1 % c.1)) && decide (c.2.length ≤ 60) && decide (1 ≤ turnsIn c) && decide (turnsIn c ≤ 60) && decide (sizeIn c ≤ 60)
theorem okB_ok {c : Clk} (h : okB c = true) : OKc c := by
  unfold okB at h
  simp only [Bool.and_eq_true, decide_eq_true_eq, List.all_eq_true] at h
  obtain ⟨⟨⟨⟨⟨⟨b1, b2⟩, m⟩, l⟩, t1⟩, t2⟩, s⟩ := h
  exact ⟨b1, b2, fun z hz => let q := m z hz; ⟨⟨q.1.1.1.1, q.1.1.1.2⟩, q.1.1.2, q.1.2⟩, l, t1, t2, s, fun z hz => (m z hz).2⟩
theorem menu_ok : ∀ i : Nat, i < 16 → okB (menuT.getD i (1, [])) = true := by decide +kernel
/-- what holds ahead of each turn -/
structure Part (n : Int) (st : List (Int × Int) × Int × Feed) : Prop where
  m : ∀ m ∈ st.1, (2 ≤ m.1 ∧ m.1 ≤ 60) ∧ (1 ≤ m.2 ∧ m.2 ≤ n) ∧ m.2 ^ m.1.toNat % n = 1 % n
  z : n * mult (st.1.map (·.1)) = st.2.1
  z2 : st.2.1 ≤ 60
  t : 1 ≤ mult (st.1.map (·.1))
theorem mult_snoc (f : Int) : ∀ fs : List Int, mult (fs ++ [f]) = mult fs * f
  | [] => by rw [List.nil_append, mult_cons, mult_nil]; omega
  | g :: fs => by rw [List.cons_append, mult_cons, mult_cons, mult_snoc f fs, Int.mul_assoc]
theorem step_part {n k : Int} (h1 : 1 ≤ n) (h2 : n ≤ 60) (hk : 0 ≤ k ∧ k < 17) {st : List (Int × Int) × Int × Feed} (p : Part n st) : Part n (stepC n st k) := by
  have hp := primesT_ok k.toNat (by omega)
  unfold stepC
  split
  · rename_i hf
    split
    · have hg := good_pos (n := n) (p := primeAt k) h1
      have hb := pick_b (pickF st.2.2 3).2 (m := ((goodF n (primeAt k)).length : Int)) (by omega)
      have hlt : (pickF (pickF st.2.2 3).2 ((goodF n (primeAt k)).length : Int)).1.toNat < (goodF n (primeAt k)).length := by omega
      have hm := mem_good (getD_mem hlt 0)
      have hfz : st.2.1 * primeAt k ≤ 60 := of_decide_eq_true (Bool.and_eq_true_iff.mp hf).2
      have e : mult ((st.1 ++ [(primeAt k, (goodF n (primeAt k)).getD (pickF (pickF st.2.2 3).2 ((goodF n (primeAt k)).length : Int)).1.toNat 0)]).map (·.1)) = mult (st.1.map (·.1)) * primeAt k := by
        rw [List.map_append, List.map_singleton, mult_snoc]
      refine ⟨fun m hm' => ?_, ?_, hfz, ?_⟩
      · rcases List.mem_append.mp hm' with q | q
        · exact p.m m q
        · obtain rfl := List.mem_singleton.mp q
          exact ⟨⟨hp.1, by show primesT.getD k.toNat 0 ≤ 60; omega⟩, ⟨hm.1, hm.2.1⟩, hm.2.2⟩
      · show n * mult (List.map _ (st.1 ++ _)) = st.2.1 * primeAt k
        rw [e, ← Int.mul_assoc, p.z]
      · show 1 ≤ mult (List.map _ (st.1 ++ _))
        rw [e]
        have h3 : 2 ≤ primeAt k := hp.1
        have := Int.mul_le_mul p.t (show (1 : Int) ≤ primeAt k by omega) (by omega) (by have := p.t; omega)
        simpa using this
    · exact ⟨p.m, p.z, p.z2, p.t⟩
  · exact p
theorem fold_part {n : Int} (h1 : 1 ≤ n) (h2 : n ≤ 60) : ∀ (ks : List Int) (st : List (Int × Int) × Int × Feed), (∀ k ∈ ks, 0 ≤ k ∧ k < 17) → Part n st → Part n (ks.foldl (stepC n) st) ∧ (ks.foldl (stepC n) st).1.length ≤ st.1.length + ks.length
  | [], st, _, p => ⟨p, Nat.le_refl _⟩
  | k :: ks, st, hk, p => by
    obtain ⟨h3, h4⟩ := fold_part h1 h2 ks (stepC n st k) (fun q hq => hk q (List.mem_cons_of_mem _ hq)) (step_part h1 h2 (hk k List.mem_cons_self) p)
    refine ⟨h3, Nat.le_trans h4 ?_⟩
    have : (stepC n st k).1.length ≤ st.1.length + 1 := by
      unfold stepC
      split
      · split
        · rw [List.length_append]; exact Nat.le_refl _
        · exact Nat.le_succ _
      · exact Nat.le_succ _
    rw [List.length_cons]
    omega
theorem lo_b (f : Feed) : 0 ≤ (fLo1 f).1 * (fLo2 f).1 ∧ (fLo1 f).1 * (fLo2 f).1 ≤ 16 := by
  have h1 := pick_b (fBeats f).2 (m := 3) (by decide)
  have h2 := pick_b (fLo1 f).2 (m := 9) (by decide)
  have h3 : 0 ≤ (fLo1 f).1 ∧ (fLo1 f).1 ≤ 2 := by unfold fLo1; omega
  have h4 : 0 ≤ (fLo2 f).1 ∧ (fLo2 f).1 ≤ 8 := by unfold fLo2; omega
  refine ⟨Int.mul_nonneg h3.1 h4.1, ?_⟩
  have := Int.mul_le_mul h3.2 h4.2 h4.1 (by decide)
  omega
theorem clock_ok (f : Feed) : OKc (clockF f).1 := by
  unfold clockF
  split
  · have h := pick_b (pickF f 2).2 (m := 16) (by decide)
    exact okB_ok (menu_ok _ (by omega))
  · obtain ⟨h1, h2, h3⟩ := beats_b (pickF f 2).2
    have hl := lo_b (pickF f 2).2
    obtain ⟨p, len⟩ := fold_part h2 h3 (span ((fLo1 (pickF f 2).2).1 * (fLo2 (pickF f 2).2).1) 17) ([], beatsF (pickF f 2).2, (fLo2 (pickF f 2).2).2) (fun k hk => by have := mem_span.mp hk; omega) ⟨fun m hm => (nomatch hm), by show _ * mult [] = _; rw [mult_nil, Int.mul_one], h3, by show 1 ≤ mult []; decide⟩
    have sl : (span ((fLo1 (pickF f 2).2).1 * (fLo2 (pickF f 2).2).1) 17).length ≤ 17 := by rw [span_len]; omega
    have p' : Part (beatsF (pickF f 2).2) (anyC (pickF f 2).2) := p
    have len' : (anyC (pickF f 2).2).1.length ≤ 17 := by
      have : (anyC (pickF f 2).2).1.length ≤ 0 + (span ((fLo1 (pickF f 2).2).1 * (fLo2 (pickF f 2).2).1) 17).length := len
      omega
    have ht : mult ((anyC (pickF f 2).2).1.map (·.1)) ≤ 60 := by
      have h4 := p'.z
      have h5 := p'.z2
      have h6 := p'.t
      have := Int.mul_le_mul_of_nonneg_right h2 (show (0 : Int) ≤ mult ((anyC (pickF f 2).2).1.map (·.1)) by omega)
      omega
    exact ⟨h2, h3, fun m hm => let q := p'.m m hm; ⟨q.1, q.2.1.1, by omega⟩, Nat.le_trans len' (by decide), p'.t, ht, Int.le_trans (Int.le_of_eq p'.z) p'.z2, fun m hm => (p'.m m hm).2.2⟩
end
end K01
namespace K01
open PySem PySem.Spec PyProof.Rows L2 VL
variable [Tb]
section
variable {P : Program} {w : World} {K : PySem.W.Frag} {mg : Str → Option Value} {base : Heap} {C : Addr}
abbrev nClk : List Str := ["_law_feed_here", "_law_menu", "_law_top", "_law_flats", "_law_beats", "_law_primes", "_law_size", "_law_movers", "_law_k", "_law_good", "_law_square", "_law_r"]
theorem scClk : FnScope nClk ["_law_feed_here"] (defScope (topS 40)) := ⟨rfl, rfl, rfl, by decide +kernel, rfl, by decide +kernel, by decide +kernel⟩
abbrev R_clock : RelM := fun xs args p xs' => ∃ f : Feed, xs = fdV f ∧ args = [] ∧ p = clkV (clockF f).1 ∧ xs' = fdV (clockF f).2
abbrev gClk (P : Program) (w : World) (K : PySem.W.Frag) (mg : Str → Option Value) (base : Heap) : Gam := gam P w K mg base nClk (topS 40) 1 true
theorem clk_loop (b : Bt mg) (F : FnVM P w K mg base 1 "_law_pick" pPick R_pick) (F2 : FnV P w K mg base 1 "_law_power" pLPow R_lpow) (a : Addr) (M T Fl : PV) (n : Int) (n1 : 1 ≤ n) (n2 : n ≤ 60) : ∀ (ks : List Int) (ms : List (Int × Int)) (z : Int) (f : Feed) (s8 s9 : Sl), (∀ k ∈ ks, 0 ≤ k ∧ k < 17) → ms.length + ks.length ≤ 100 →
    ∃ s8' s9' : Sl, LoopV (gClk P w K mg base) (.one 8) (forBody (nthS (defBody (topS 40)) 8)) (ks.map PV.int) [.ow (some a) (fdV f), .val M, .val T, .val Fl, .val (.int n), .val (.tup (primesT.map PV.int)), .val (.int z), .own (ms.map pr), s8, s9, .no, .no]
      (.nx [.ow (some a) (fdV (ks.foldl (stepC n) (ms, z, f)).2.2), .val M, .val T, .val Fl, .val (.int n), .val (.tup (primesT.map PV.int)), .val (.int (ks.foldl (stepC n) (ms, z, f)).2.1), .own ((ks.foldl (stepC n) (ms, z, f)).1.map pr), s8', s9', .no, .no]) := by
  intro ks
  induction ks with
  | nil => exact fun ms z f s8 s9 _ _ => ⟨s8, s9, .nil⟩
  | cons k ks ih =>
    intro ms z f s8 s9 hk hlen
    have hk0 := hk k List.mem_cons_self
    have hks : ∀ q ∈ ks, 0 ≤ q ∧ q < 17 := fun q hq => hk q (List.mem_cons_of_mem _ hq)
    simp only [List.length_cons] at hlen
    have hkn : k.toNat < primesT.length := by show k.toNat < 17; omega
    obtain ⟨p1, p2⟩ := primesT_ok k.toNat hkn
    have pAt : ∀ (s9 : Sl), EV (gClk P w K mg base) [.ow (some a) (fdV f), .val M, .val T, .val Fl, .val (.int n), .val (.tup (primesT.map PV.int)), .val (.int z), .own (ms.map pr), .val (.int k), s9, .no, .no] (match nthS (forBody (nthS (defBody (topS 40)) 8)) 0 with | .If (.BoolOp _ (.Compare (.BinOp _ _ e _) _ _ _ :: _) _) _ _ _ => e | _ => .Constant .none 0 ⟨0, 0, 0, 0⟩) (.int (primeAt k)) := fun s9 =>
      ev_ixT (ps := primesT.map PV.int) (n := k.toNat) (v 5) (v 8) (by omega) (map_get hkn 0)
    have pB : 2 ≤ primeAt k ∧ primeAt k ≤ 59 := ⟨p1, p2⟩
    rw [List.foldl_cons]
    have t1 : ∀ u, (!decide (n % primeAt k = 0)) = u → TV (gClk P w K mg base) [.ow (some a) (fdV f), .val M, .val T, .val Fl, .val (.int n), .val (.tup (primesT.map PV.int)), .val (.int z), .own (ms.map pr), .val (.int k), s9, .no, .no] (match nthS (forBody (nthS (defBody (topS 40)) 8)) 0 with | .If (.BoolOp _ (e :: _) _) _ _ _ => e | _ => .Constant .none 0 ⟨0, 0, 0, 0⟩) u := fun u hu => by
      subst hu
      exact (cv_nei (ev_mod (ev_toint (v 4) b.int) (pAt s9) (by omega)) ev_int).tv
    have t2 : ∀ u, decide (z * primeAt k ≤ 60) = u → TV (gClk P w K mg base) [.ow (some a) (fdV f), .val M, .val T, .val Fl, .val (.int n), .val (.tup (primesT.map PV.int)), .val (.int z), .own (ms.map pr), .val (.int k), s9, .no, .no] (match nthS (forBody (nthS (defBody (topS 40)) 8)) 0 with | .If (.BoolOp _ (_ :: e :: _) _) _ _ _ => e | _ => .Constant .none 0 ⟨0, 0, 0, 0⟩) u := fun u hu => by
      subst hu
      exact (cv_le (ev_mul (v 6) (ev_ixT (ps := primesT.map PV.int) (n := k.toNat) (p := .int (primeAt k)) (v 5) (v 8) (by omega) (map_get hkn 0)) (.inr (by omega))) ev_int).tv
    cases hf : fits2 n k z with
    | false =>
      have hst : stepC n (ms, z, f) k = (ms, z, f) := if_neg (by show ¬ fits2 n k z = true; rw [hf]; decide)
      rw [hst]
      obtain ⟨s8', s9', hL⟩ := ih ms z f (.val (.int k)) s9 hks (by omega)
      refine ⟨s8', s9', .next trivial (ss_one (sv_if_f ?_ ss_nil)) hL⟩
      cases e1 : (!decide (n % primeAt k = 0)) with
      | false => exact tv_w (wv_and_f (t1 _ e1))
      | true =>
        refine tv_w (wv_and_t (t1 _ e1) (wv_and_f (t2 _ ?_)))
        unfold fits2 at hf
        rw [e1, Bool.true_and] at hf
        exact hf
    | true =>
      obtain ⟨e1, e2⟩ := Bool.and_eq_true_iff.mp hf
      have hq := pick_b f (m := 3) (by decide)
      have test : ∀ u, decide ((pickF f 3).1 < 2) = u → TM (gClk P w K mg base) [.ow (some a) (fdV f), .val M, .val T, .val Fl, .val (.int n), .val (.tup (primesT.map PV.int)), .val (.int z), .own (ms.map pr), .val (.int k), s9, .no, .no] (match nthS (forBody (nthS (defBody (topS 40)) 8)) 0 with | .If e _ _ _ => e | _ => .Constant .none 0 ⟨0, 0, 0, 0⟩) u
          [.ow (some a) (fdV (pickF f 3).2), .val M, .val T, .val Fl, .val (.int n), .val (.tup (primesT.map PV.int)), .val (.int z), .own (ms.map pr), .val (.int k), s9, .no, .no] := fun u hu => by
        subst hu
        exact tm_w (wm_and_t (t1 _ e1) (wm_and_t (t2 _ e2) (wm_and1 (tm_lt (em_pick F ev_int (by decide) (by decide) 0) ev_int))))
      by_cases hq2 : (pickF f 3).1 < 2
      · have hgp := good_pos (n := n) (p := primeAt k) n1
        have hgl := good_len n (primeAt k) n2
        have hb := pick_b (pickF f 3).2 (m := ((goodF n (primeAt k)).length : Int)) (by omega)
        have hst : stepC n (ms, z, f) k = (ms ++ [(primeAt k, (goodF n (primeAt k)).getD (pickF (pickF f 3).2 ((goodF n (primeAt k)).length : Int)).1.toNat 0)], z * primeAt k, (pickF (pickF f 3).2 ((goodF n (primeAt k)).length : Int)).2) := by
          show (if fits2 n k z then _ else _) = _
          rw [if_pos hf]
          exact if_pos hq2
        rw [hst]
        obtain ⟨s8', s9', hL⟩ := ih (ms ++ [(primeAt k, (goodF n (primeAt k)).getD (pickF (pickF f 3).2 ((goodF n (primeAt k)).length : Int)).1.toNat 0)]) (z * primeAt k) (pickF (pickF f 3).2 ((goodF n (primeAt k)).length : Int)).2 (.val (.int k)) (.val (.lst ((goodF n (primeAt k)).map PV.int))) hks (by rw [List.length_append, List.length_singleton]; omega)
        refine ⟨s8', s9', .next trivial (ss_one (sv_ifM_t (test _ (decide_eq_true hq2)) ?_)) hL⟩
        refine ss_own_val (n := 9) (xs := (goodF n (primeAt k)).map PV.int) (sv_lcM (n := 9) [("_law_r", 11)] (.one 11) PV.int (span 1 (n + 1)) (fun r => decide (r ^ (primeAt k).toNat % n = 1 % n)) PV.int rfl rfl rfl rfl (by decide +kernel) rfl ?_ ?_ ?_ ?_ ?_ fun r hr => ⟨trivial, tvs_one ?_, fun _ => v 11⟩) (show 9 < 12 by decide) ?_
        · exact IV.to (iv_rng2 ev_int (ev_add (v 4) ev_int) (by omega) b.range) (rng_span2 _ _)
        · rw [span_len]; omega
        · exact blkOk_by (N := nClk) (sc := defScope (topS 40)) (by decide +kernel)
        · exact bv_one rfl (.inl rfl)
        · decide
        · have hr' := mem_span.mp hr
          exact (cv_eqi (ev_call F2 rfl (Nat.le_refl 1) (av_cons (v 11) (av_cons (ev_ixT (ps := primesT.map PV.int) (n := k.toNat) (p := .int (primeAt k)) (v 5) (v 8) (by omega) (map_get hkn 0)) (av_cons (v 4) av_nil))) ⟨r, (primeAt k).toNat, n, by omega, n1, by omega, by omega, by rw [show (((primeAt k).toNat : Nat) : Int) = primeAt k by omega], rfl⟩ rfl) (ev_mod ev_int (v 4) (by omega))).tv
        · have hlen2 : (((goodF n (primeAt k)).map PV.int).length : Int) = ((goodF n (primeAt k)).length : Int) := by rw [List.length_map]
          refine ss_cons (sv_appendM (n := 7) (xs := ms.map pr) rfl (.inl rfl) rfl (em_tup (am_cons (em_ev (ev_ixT (ps := primesT.map PV.int) (n := k.toNat) (p := .int (primeAt k)) (v 5) (v 8) (by omega) (map_get hkn 0))) (am_cons (em_ixL (ps := (goodF n (primeAt k)).map PV.int) (n := (pickF (pickF f 3).2 ((goodF n (primeAt k)).length : Int)).1.toNat) (v 9) (em_pick F (EV.to (ev_len (qv_l (lv_val (v 9))) b.len) (congrArg PV.int hlen2)) (by omega) (by omega) 0) (by omega) (map_get (by omega) 0)) am_nil)) (show 2 ≤ 100000 by decide)) rfl (by rw [List.length_map]; omega)) ?_
          refine ss_one (SV.to (sv_set (n := 6) rfl (.inl rfl) (ev_mul (v 6) (ev_ixT (ps := primesT.map PV.int) (n := k.toNat) (p := .int (primeAt k)) (v 5) (v 8) (by omega) (map_get hkn 0)) (.inr (by omega)))) ?_)
          rw [List.map_append]
          rfl
      · have hst : stepC n (ms, z, f) k = (ms, z, (pickF f 3).2) := by
          show (if fits2 n k z then _ else _) = _
          rw [if_pos hf]
          exact if_neg hq2
        rw [hst]
        obtain ⟨s8', s9', hL⟩ := ih ms z (pickF f 3).2 (.val (.int k)) s9 hks (by omega)
        exact ⟨s8', s9', .next trivial (ss_one (sv_ifM_f (test _ (decide_eq_false hq2)) ss_nil)) hL⟩
theorem fn_clock (A : At K mg "_law_clock" 40 ["_law_feed_here"]) (b : Bt mg) (F : FnVM P w K mg base 1 "_law_pick" pPick R_pick) (F2 : FnV P w K mg base 1 "_law_power" pLPow R_lpow) : FnVM P w K mg base 2 "_law_clock" ["_law_feed_here"] R_clock := by
  obtain ⟨g, fd, Fn, hm, hb⟩ := A.ex
  refine fn_defM Fn scClk hm hb fun a xs args p xs' h hl => ?_
  obtain ⟨f, rfl, rfl, rfl, rfl⟩ := h
  have p0 := pick_b f (m := 2) (by decide)
  unfold clockF
  by_cases h0 : (pickF f 2).1 = 0
  · rw [if_pos h0]
    have h1 := pick_b (pickF f 2).2 (m := 16) (by decide)
    refine ⟨[.ow (some a) (fdV (pickF (pickF f 2).2 16).2), .val (.tup (menuT.map clkV)), .no, .no, .no, .no, .no, .no, .no, .no, .no, .no], rfl, ss_cons (sv_set (n := 1) (p := .tup (menuT.map clkV)) rfl (.inl rfl) (ev_const 5 (by decide +kernel))) (ss_stop (sv_ifM_t (TM.to (tm_eqi (em_pick F ev_int (by decide) (by decide) 0) ev_int) (decide_eq_true h0)) ?_))⟩
    exact SS.to (ss_one (sv_retM (em_ixT (ps := menuT.map clkV) (n := (pickF (pickF f 2).2 16).1.toNat) (p := clkV (menuT.getD (pickF (pickF f 2).2 16).1.toNat (1, []))) (v 1) (em_pick (m := 16) F (EV.to (ev_len (qv_t (v 1)) b.len) rfl) (by decide) (by decide) 0) (by omega) (map_get (by show _ < 16; omega) _)))) rfl
  · rw [if_neg h0]
    have test : TM (gClk P w K mg base) [.ow (some a) (fdV f), .val (.tup (menuT.map clkV)), .no, .no, .no, .no, .no, .no, .no, .no, .no, .no] (match nthS (defBody (topS 40)) 1 with | .If e _ _ _ => e | _ => .Constant .none 0 ⟨0, 0, 0, 0⟩) false [.ow (some a) (fdV (pickF f 2).2), .val (.tup (menuT.map clkV)), .no, .no, .no, .no, .no, .no, .no, .no, .no, .no] :=
      TM.to (tm_eqi (em_pick F ev_int (by decide) (by decide) 0) ev_int) (decide_eq_false h0)
    generalize (pickF f 2).2 = f at *
    obtain ⟨t1, t2, t3, t4⟩ := top_b f
    obtain ⟨b1, b2, b3⟩ := beats_b f
    have hl := lo_b f
    have fl := flats_len (topF f) t3
    have p1 := pick_b (fBeats f).2 (m := 3) (by decide)
    have p2 := pick_b (fLo1 f).2 (m := 9) (by decide)
    have q1 : 0 ≤ (fLo1 f).1 ∧ (fLo1 f).1 < 3 := p1
    have q2 : 0 ≤ (fLo2 f).1 ∧ (fLo2 f).1 < 9 := p2
    have p3 : 0 ≤ (fTop f).1 ∧ (fTop f).1 < 4 := pick_b f (m := 4) (by decide)
    have p4 : 0 ≤ (fBeats f).1 := (pick_b (fTop f).2 (m := ((flatsF (topF f)).length : Int)) (by omega)).1
    have sl : (span ((fLo1 f).1 * (fLo2 f).1) 17).length ≤ 17 := by rw [span_len]; omega
    obtain ⟨s8, s9, hL⟩ := clk_loop (P := P) (w := w) (K := K) (mg := mg) (base := base) b F F2 a (.tup (menuT.map clkV)) (.int (topF f)) (.lst ((flatsF (topF f)).map PV.int)) (beatsF f) b2 b3 (span ((fLo1 f).1 * (fLo2 f).1) 17) [] (beatsF f) (fLo2 f).2 (.no) .no (fun k hk => by have := mem_span.mp hk; omega) (by show 0 + _ ≤ 100; omega)
    refine ⟨[.ow (some a) (fdV (anyC f).2.2), .val (.tup (menuT.map clkV)), .val (.int (topF f)), .val (.lst ((flatsF (topF f)).map PV.int)), .val (.int (beatsF f)), .val (.tup (primesT.map PV.int)), .val (.int (anyC f).2.1), .own ((anyC f).1.map pr), s8, s9, .no, .no], rfl, ?_⟩
    have hlen2 : (((flatsF (topF f)).map PV.int).length : Int) = ((flatsF (topF f)).length : Int) := by rw [List.length_map]
    refine ss_cons (sv_set (n := 1) (p := .tup (menuT.map clkV)) rfl (.inl rfl) (ev_const 5 (by decide +kernel))) (ss_cons (sv_ifM_f test ss_nil) ?_)
    refine ss_cons (ρ' := [.ow (some a) (fdV (fTop f).2), .val (.tup (menuT.map clkV)), .val (.int (topF f)), .no, .no, .no, .no, .no, .no, .no, .no, .no]) (SV.to (sv_setM (n := 2) rfl (.inl rfl) (em_ixT (ps := topsT.map PV.int) (n := (fTop f).1.toNat) (p := .int (topF f)) (ev_const 2 (by decide +kernel)) (em_pick F ev_int (by decide) (by decide) 0) (Int.toNat_of_nonneg p3.1).symm (map_get t1 0))) rfl) ?_
    refine ss_own_val (n := 3) (xs := (flatsF (topF f)).map PV.int) (sv_lcM (n := 3) [("_law_k", 8)] (.one 8) PV.int (span 1 (topF f + 1)) flatB PV.int rfl rfl rfl rfl (by decide +kernel) rfl ?_ ?_ ?_ ?_ ?_ fun k hk => ⟨trivial, tvs_one ?_, fun _ => v 8⟩) (show 3 < 12 by decide) ?_
    · exact IV.to (iv_rng2 ev_int (ev_add (v 2) ev_int) (by omega) b.range) (rng_span2 _ _)
    · rw [span_len]; omega
    · exact blkOk_by (N := nClk) (sc := defScope (topS 40)) (by decide +kernel)
    · exact bv_one rfl (.inr rfl)
    · decide
    · refine tv_val (ev_all' (xs := ([4, 9, 25, 49] : List Int)) (f := fun s => !decide (k % s = 0)) (lv_nv (nv_lcA [("_law_square", 10)] (.one 10) PV.int ([4, 9, 25, 49] : List Int) _ rfl ?_ (by decide) ?_ ?_ ?_ fun s hs => ⟨trivial, ?_⟩)) rfl b.all)
      · exact iv_tup (ev_const 2 (by decide +kernel))
      · show BlkOk nClk (relS _ (defScope (topS 40))) _ _
        exact blkOk_by (by decide +kernel)
      · exact bv_one rfl (.inl rfl)
      · decide
      · have hs2 : 0 < s := by
          have key : ∀ s ∈ ([4, 9, 25, 49] : List Int), 0 < s := by decide
          exact key s hs
        exact (cv_nei (ev_mod (v 8) (v 10) hs2) ev_int).ev
    refine ss_cons (ρ' := [.ow (some a) (fdV (fBeats f).2), .val (.tup (menuT.map clkV)), .val (.int (topF f)), .val (.lst ((flatsF (topF f)).map PV.int)), .val (.int (beatsF f)), .no, .no, .no, .no, .no, .no, .no])
      (SV.to (sv_setM (n := 4) rfl (.inr rfl) (em_ixL (ps := (flatsF (topF f)).map PV.int) (n := (fBeats f).1.toNat) (p := .int (beatsF f)) (v 3) (em_pick (m := ((flatsF (topF f)).length : Int)) F (EV.to (ev_len (qv_l (lv_val (v 3))) b.len) (congrArg PV.int hlen2)) (by omega) (by omega) 0) (Int.toNat_of_nonneg p4).symm (map_get b1 0))) rfl) ?_
    refine ss_cons (sv_set (n := 5) (p := .tup (primesT.map PV.int)) rfl (.inr rfl) (ev_const 2 (by decide +kernel))) (ss_cons (sv_set (n := 6) rfl (.inl rfl) (v 4)) (ss_cons (sv_own (n := 7) rfl (.inl rfl) (nv_lst av_nil (by decide))) ?_))
    refine ss_cons (ρ' := [.ow (some a) (fdV (anyC f).2.2), .val (.tup (menuT.map clkV)), .val (.int (topF f)), .val (.lst ((flatsF (topF f)).map PV.int)), .val (.int (beatsF f)), .val (.tup (primesT.map PV.int)), .val (.int (anyC f).2.1), .own ((anyC f).1.map pr), s8, s9, .no, .no]) (sv_forM (i := (fLo1 f).1 * (fLo2 f).1) (j := 17) (ρ1 := [.ow (some a) (fdV (fLo2 f).2), .val (.tup (menuT.map clkV)), .val (.int (topF f)), .val (.lst ((flatsF (topF f)).map PV.int)), .val (.int (beatsF f)), .val (.tup (primesT.map PV.int)), .val (.int (beatsF f)), .own [], .no, .no, .no, .no]) rfl (em_mul (ρ1 := [.ow (some a) (fdV (fLo1 f).2), .val (.tup (menuT.map clkV)), .val (.int (topF f)), .val (.lst ((flatsF (topF f)).map PV.int)), .val (.int (beatsF f)), .val (.tup (primesT.map PV.int)), .val (.int (beatsF f)), .own [], .no, .no, .no, .no]) (em_pick (m := 3) F ev_int (by decide) (by decide) 0) (em_pick (m := 9) F ev_int (by decide) (by decide) 0) (.inr (by omega))) (em_ev (EV.to (ev_len (qv_t (v 5)) b.len) rfl)) (by omega) b.range (bv_one (n := 8) rfl (.inr rfl)) ?_) ?_
    · rw [rng_span2]
      exact hL
    · exact ss_one (sv_reto (ev_tup (av_cons (v 4) (av_cons (ev_totup (qv_l (lo 7)) b.tuple) av_nil)) (show 2 ≤ 100000 by decide)))
end
end K01
namespace K01
open PySem VL
variable [Tb]
/-! ### numbers modulo the beats -/
theorem md (a n : Int) : ∃ q, a % n = a + n * q := ⟨-(a / n), by have := Int.emod_def a n; grind⟩
theorem em_of {a b n : Int} (q : Int) (h : a = b + n * q) : a % n = b % n := by rw [h, Int.add_mul_emod_self_left]
theorem ex_of {a b n : Int} (h : a % n = b % n) : ∃ q, a = b + n * q := by
  obtain ⟨q, hq⟩ := md a n
  obtain ⟨r, hr⟩ := md b n
  exact ⟨r - q, by grind⟩
theorem dvd_mult : ∀ (fs : List Int) (f : Int), f ∈ fs → ∃ q, mult fs = f * q
  | g :: fs, f, h => by
    rw [mult_cons]
    rcases List.mem_cons.mp h with e | h
    · exact ⟨mult fs, by rw [e]⟩
    · obtain ⟨q, hq⟩ := dvd_mult fs f h
      exact ⟨g * q, by rw [hq]; grind⟩
theorem mult_pow_one {n : Int} {k : Nat} : ∀ fs : List Int, (∀ f ∈ fs, f ^ k % n = 1 % n) → mult fs ^ k % n = 1 % n
  | [], _ => by rw [mult_nil, Int.one_pow]
  | f :: fs, h => by
    rw [mult_cons, Int.mul_pow]
    have := mul_cong (h f List.mem_cons_self) (mult_pow_one fs fun g hg => h g (List.mem_cons_of_mem _ hg))
    rw [this, Int.one_mul]
theorem pow_mul_one {n x : Int} {m : Nat} (h : x ^ m % n = 1 % n) (q : Nat) : x ^ (m * q) % n = 1 % n := by
  rw [Int.pow_mul, pow_cong h q, Int.one_pow]
theorem root_turns {c : Clk} (h : OKc c) : rootsIn c ^ (turnsIn c).toNat % c.1 = 1 % c.1 := by
  refine mult_pow_one _ fun f hf => ?_
  obtain ⟨m, hm, rfl⟩ := List.mem_map.mp hf
  obtain ⟨q, hq⟩ := dvd_mult (c.2.map (·.1)) m.1 (List.mem_map.mpr ⟨m, hm, rfl⟩)
  have h1 := (h.m m hm).1.1
  have ht := h.t1
  have hq1 : turnsIn c = m.1 * q := hq
  have hq0 : 0 ≤ q := by
    rcases Int.lt_or_le q 0 with z | z
    · exfalso
      have := Int.mul_nonpos_of_nonneg_of_nonpos (show 0 ≤ m.1 by omega) (show q ≤ 0 by omega)
      omega
    · exact z
  have e : (turnsIn c).toNat = m.1.toNat * q.toNat := by
    rw [hq1, Int.toNat_mul (by omega) hq0]
  rw [e]
  exact pow_mul_one (h.rt m hm) _
theorem fac_add {c : Clk} (a b : Nat) : fac c a * fac c b % c.1 = fac c (a + b) % c.1 := by
  have h1 : fac c a % c.1 = rootsIn c ^ a % c.1 := Int.emod_emod_of_dvd _ (Int.dvd_refl _)
  have h2 : fac c b % c.1 = rootsIn c ^ b % c.1 := Int.emod_emod_of_dvd _ (Int.dvd_refl _)
  have h3 : fac c (a + b) % c.1 = rootsIn c ^ (a + b) % c.1 := Int.emod_emod_of_dvd _ (Int.dvd_refl _)
  rw [mul_cong h1 h2, h3, Int.pow_add]
theorem fac_turns {c : Clk} (h : OKc c) (q : Nat) : fac c ((turnsIn c).toNat * q) % c.1 = 1 % c.1 := by
  have h3 : fac c ((turnsIn c).toNat * q) % c.1 = rootsIn c ^ ((turnsIn c).toNat * q) % c.1 := Int.emod_emod_of_dvd _ (Int.dvd_refl _)
  rw [h3, pow_mul_one (root_turns h) q]
/-- a turn and the one against it -/
theorem neg_sum {c : Clk} (h : OKc c) {t : Int} (h1 : 0 ≤ t) (h2 : t < turnsIn c) : ∃ q : Nat, t.toNat + (negT c t).toNat = (turnsIn c).toNat * q := by
  unfold negT
  by_cases z : t = 0
  · exact ⟨0, by subst z; simp⟩
  · have e : (-t) % turnsIn c = turnsIn c - t := by
      have := Int.emod_eq_of_lt (a := turnsIn c - t) (b := turnsIn c) (by omega) (by omega)
      rw [← this]
      exact em_of (-1) (by grind)
    exact ⟨1, by rw [e]; omega⟩
theorem fac_neg {c : Clk} (h : OKc c) {t : Int} (h1 : 0 ≤ t) (h2 : t < turnsIn c) : ∃ q, fac c t.toNat * fac c (negT c t).toNat = 1 + c.1 * q := by
  obtain ⟨q, hq⟩ := neg_sum h h1 h2
  refine ex_of ?_
  rw [fac_add, hq, fac_turns h]
theorem neg_turn {c : Clk} (h : OKc c) (t : Int) : (t + negT c t) % turnsIn c = 0 := by
  obtain ⟨q, hq⟩ := md (-t) (turnsIn c)
  have e : t + negT c t = 0 + turnsIn c * q := by unfold negT; omega
  rw [em_of q e, Int.zero_emod]
theorem back_join {c : Clk} (h : OKc c) {z : Int × Int} (hz : Mv c z) : joinM c (backM c z) z = (0, 0) ∧ joinM c z (backM c z) = (0, 0) := by
  obtain ⟨q, hq⟩ := fac_neg h hz.t1 hz.t2
  obtain ⟨r, hr⟩ := md (-fac c (negT c z.2).toNat * z.1) c.1
  refine ⟨Prod.ext ?_ ?_, Prod.ext ?_ ?_⟩
  · show (fac c z.2.toNat * ((-fac c (negT c z.2).toNat * z.1) % c.1) + z.1) % c.1 = 0
    rw [hr, ← Int.zero_emod c.1]
    exact em_of (fac c z.2.toNat * r - q * z.1) (by grind)
  · show (negT c z.2 + z.2) % turnsIn c = 0
    rw [Int.add_comm]
    exact neg_turn h _
  · show (fac c (negT c z.2).toNat * z.1 + (-fac c (negT c z.2).toNat * z.1) % c.1) % c.1 = 0
    rw [hr, ← Int.zero_emod c.1]
    exact em_of r (by grind)
  · exact neg_turn h _
theorem uniq_back {c : Clk} (h : OKc c) {z y : Int × Int} (hz : Mv c z) (hy : Mv c y) (e : joinM c y z = (0, 0)) : y = backM c z := by
  obtain ⟨q, hq⟩ := fac_neg h hz.t1 hz.t2
  have e1 : (fac c z.2.toNat * y.1 + z.1) % c.1 = 0 := congrArg Prod.fst e
  have e2 : (y.2 + z.2) % turnsIn c = 0 := congrArg Prod.snd e
  obtain ⟨r, hr⟩ := ex_of (e1.trans (Int.zero_emod c.1).symm)
  obtain ⟨s, hs⟩ := ex_of (e2.trans (Int.zero_emod (turnsIn c)).symm)
  refine Prod.ext ?_ ?_
  · show y.1 = (-fac c (negT c z.2).toNat * z.1) % c.1
    rw [← Int.emod_eq_of_lt hy.x1 hy.x2]
    exact em_of (fac c (negT c z.2).toNat * r - q * y.1) (by grind)
  · show y.2 = (-z.2) % turnsIn c
    rw [← Int.emod_eq_of_lt hy.t1 hy.t2]
    exact em_of s (by grind)
theorem filter_one {p : Int → Bool} {b : Int} : ∀ (n : Nat) (lo hi : Int), (hi - lo).toNat = n → (∀ x, lo ≤ x → x < hi → (p x = true ↔ x = b)) → (lo ≤ b → b < hi → (span lo hi).filter p = [b]) ∧ (¬ (lo ≤ b ∧ b < hi) → (span lo hi).filter p = [])
  | 0, lo, hi, hn, h => by
    rw [span_nil (by omega)]
    exact ⟨fun h1 h2 => by omega, fun _ => rfl⟩
  | n + 1, lo, hi, hn, h => by
    have hlt : lo < hi := by omega
    obtain ⟨i1, i2⟩ := filter_one n (lo + 1) hi (by omega) fun x h1 h2 => h x (by omega) h2
    rw [span_cons hlt]
    by_cases e : lo = b
    · have hp : p lo = true := (h lo (Int.le_refl _) hlt).mpr e
      rw [List.filter_cons_of_pos hp, i2 (by omega), e]
      exact ⟨fun _ _ => rfl, fun z => absurd ⟨by omega, by omega⟩ z⟩
    · have hp : ¬ p lo = true := fun z => e ((h lo (Int.le_refl _) hlt).mp z)
      rw [List.filter_cons_of_neg hp]
      exact ⟨fun h1 h2 => i1 (by omega) h2, fun z => i2 fun q => z ⟨by omega, q.2⟩⟩
/-- the shifts that undo a move -/
theorem found_back {c : Clk} (h : OKc c) {z : Int × Int} (hz : Mv c z) : ((span 0 c.1).filter fun x => decide (joinM c z (x, negT c z.2) = (0, 0))) = [(backM c z).1] := by
  have hb := back_mv h z
  refine (filter_one (b := (backM c z).1) _ 0 c.1 rfl fun x h1 h2 => ?_).1 hb.x1 hb.x2
  rw [decide_eq_true_iff]
  constructor
  · intro e
    have e1 : (fac c (negT c z.2).toNat * z.1 + x) % c.1 = 0 := congrArg Prod.fst e
    obtain ⟨r, hr⟩ := ex_of (e1.trans (Int.zero_emod c.1).symm)
    show x = (-fac c (negT c z.2).toNat * z.1) % c.1
    rw [← Int.emod_eq_of_lt h1 h2]
    exact em_of r (by grind)
  · intro e
    subst e
    exact (back_join h hz).2
theorem turned_join {c : Clk} (h : OKc c) {z y : Int × Int} (hz : Mv c z) (hy : Mv c y) : joinM c (joinM c (backM c y) z) y = turnedM c z y := by
  obtain ⟨q, hq⟩ := fac_neg h hy.t1 hy.t2
  obtain ⟨r, hr⟩ := md (-fac c (negT c y.2).toNat * y.1) c.1
  obtain ⟨s, hs⟩ := md (fac c z.2.toNat * ((-fac c (negT c y.2).toNat * y.1) % c.1) + z.1) c.1
  obtain ⟨u, hu⟩ := md (-y.2) (turnsIn c)
  obtain ⟨u2, hu2⟩ := md (negT c y.2 + z.2) (turnsIn c)
  refine Prod.ext ?_ ?_
  · show (fac c y.2.toNat * ((fac c z.2.toNat * ((-fac c (negT c y.2).toNat * y.1) % c.1) + z.1) % c.1) + y.1) % c.1 = (fac c y.2.toNat * z.1 + (1 - fac c z.2.toNat) * y.1) % c.1
    rw [hs, hr]
    exact em_of (fac c y.2.toNat * s + fac c y.2.toNat * fac c z.2.toNat * r - fac c z.2.toNat * q * y.1) (by grind)
  · show ((negT c y.2 + z.2) % turnsIn c + y.2) % turnsIn c = z.2
    rw [hu2]
    refine (em_of (b := z.2) (u + u2) ?_).trans (Int.emod_eq_of_lt hz.t1 hz.t2)
    have e : negT c y.2 = -y.2 + turnsIn c * u := hu
    generalize negT c y.2 = k at e
    subst e
    clear hu hu2 hs hr hq
    grind
theorem turned_self {c : Clk} (h : OKc c) {z : Int × Int} (hz : Mv c z) : turnedM c z z = z := by
  refine Prod.ext ?_ rfl
  show (fac c z.2.toNat * z.1 + (1 - fac c z.2.toNat) * z.1) % c.1 = z.1
  rw [show fac c z.2.toNat * z.1 + (1 - fac c z.2.toNat) * z.1 = z.1 by grind]
  exact Int.emod_eq_of_lt hz.x1 hz.x2
/-! ### walking a move again and again -/
def gs (F : Int) : Nat → Int
  | 0 => 0
  | k + 1 => F * gs F k + 1
theorem gs_add (F : Int) (a : Nat) : ∀ b : Nat, gs F (a + b) = gs F b + F ^ b * gs F a
  | 0 => by simp [gs]
  | b + 1 => by
    show F * gs F (a + b) + 1 = F * gs F b + 1 + F ^ (b + 1) * gs F a
    rw [gs_add F a b, Int.pow_succ]
    grind
theorem gs_mul {n F : Int} {T : Nat} (h : F ^ T % n = 1 % n) : ∀ q : Nat, ∃ r, gs F (T * q) = (q : Int) * gs F T + n * r
  | 0 => ⟨0, by simp [gs]⟩
  | q + 1 => by
    obtain ⟨r, hr⟩ := gs_mul h q
    obtain ⟨s, hs⟩ := ex_of h
    refine ⟨r + s * gs F (T * q), ?_⟩
    rw [show T * (q + 1) = T * q + T by rw [Nat.mul_add, Nat.mul_one], gs_add, hs, Int.natCast_add]
    grind
theorem walk_form {c : Clk} (h : OKc c) {z : Int × Int} (hz : Mv c z) : ∀ k : Nat, walkM c z k = (z.1 * gs (fac c z.2.toNat) k % c.1, (k : Int) * z.2 % turnsIn c)
  | 0 => by simp [walkM, gs]
  | k + 1 => by
    show joinM c (walkM c z k) z = _
    rw [walk_form h hz k]
    obtain ⟨q, hq⟩ := md (z.1 * gs (fac c z.2.toNat) k) c.1
    obtain ⟨r, hr⟩ := md ((k : Int) * z.2) (turnsIn c)
    refine Prod.ext ?_ ?_
    · show (fac c z.2.toNat * (z.1 * gs (fac c z.2.toNat) k % c.1) + z.1) % c.1 = z.1 * (fac c z.2.toNat * gs (fac c z.2.toNat) k + 1) % c.1
      rw [hq]
      exact em_of (fac c z.2.toNat * q) (by grind)
    · show ((k : Int) * z.2 % turnsIn c + z.2) % turnsIn c = ((k + 1 : Nat) : Int) * z.2 % turnsIn c
      rw [hr, Int.natCast_add]
      exact em_of r (by grind)
theorem walk_size {c : Clk} (h : OKc c) {z : Int × Int} (hz : Mv c z) : walkM c z (sizeIn c).toNat = (0, 0) := by
  have hb := h.b1
  have ht := h.t1
  have es : (sizeIn c).toNat = (turnsIn c).toNat * c.1.toNat := by
    unfold sizeIn
    rw [Int.toNat_mul (by omega) (by omega), Nat.mul_comm]
  have hF : fac c z.2.toNat ^ (turnsIn c).toNat % c.1 = 1 % c.1 := by
    have h1 : fac c z.2.toNat % c.1 = rootsIn c ^ z.2.toNat % c.1 := Int.emod_emod_of_dvd _ (Int.dvd_refl _)
    rw [pow_cong h1, ← Int.pow_mul, Nat.mul_comm]
    exact pow_mul_one (root_turns h) _
  obtain ⟨r, hr⟩ := gs_mul hF c.1.toNat
  rw [walk_form h hz, es]
  refine Prod.ext ?_ ?_
  · show z.1 * gs (fac c z.2.toNat) ((turnsIn c).toNat * c.1.toNat) % c.1 = 0
    rw [hr, show ((c.1.toNat : Nat) : Int) = c.1 by omega, ← Int.zero_emod c.1]
    exact em_of (z.1 * (gs (fac c z.2.toNat) (turnsIn c).toNat + r)) (by grind)
  · show (((turnsIn c).toNat * c.1.toNat : Nat) : Int) * z.2 % turnsIn c = 0
    rw [Int.natCast_mul, show (((turnsIn c).toNat : Nat) : Int) = turnsIn c by omega, ← Int.zero_emod (turnsIn c)]
    exact em_of (((c.1.toNat : Nat) : Int) * z.2) (by grind)
theorem times_back {c : Clk} (h : OKc c) {z : Int × Int} (hz : Mv c z) : timesM c z (-1) = backM c z := by
  have hs := size_b h
  have e : ((-1) % sizeIn c).toNat = (sizeIn c).toNat - 1 := by
    have : (-1) % sizeIn c = sizeIn c - 1 := by
      have q := Int.emod_eq_of_lt (a := sizeIn c - 1) (b := sizeIn c) (by omega) (by omega)
      rw [← q]
      exact em_of (-1) (by grind)
    rw [this]
    omega
  unfold timesM
  rw [e]
  refine uniq_back h hz (walk_mv h z _) ?_
  have : joinM c (walkM c z ((sizeIn c).toNat - 1)) z = walkM c z ((sizeIn c).toNat - 1 + 1) := rfl
  rw [this, Nat.sub_add_cancel (by omega)]
  exact walk_size h hz
theorem times_zero {c : Clk} (z : Int × Int) : timesM c z 0 = (0, 0) := by
  unfold timesM
  rw [Int.zero_emod]
  rfl
theorem number_back {c : Clk} (h : OKc c) {z : Int × Int} (hz : Mv c z) : 0 ≤ z.2 * c.1 + z.1 ∧ z.2 * c.1 + z.1 < sizeIn c ∧ ((z.2 * c.1 + z.1) % c.1, (z.2 * c.1 + z.1) / c.1) = z := by
  have hb := h.b1
  have h1 := Int.mul_nonneg hz.t1 (show 0 ≤ c.1 by omega)
  have h2 : z.2 * c.1 ≤ (turnsIn c - 1) * c.1 := Int.mul_le_mul_of_nonneg_right (by have := hz.t2; omega) (by omega)
  have h3 : (turnsIn c - 1) * c.1 = sizeIn c - c.1 := by unfold sizeIn; grind
  have hx1 := hz.x1
  have hx2 := hz.x2
  refine ⟨by omega, by omega, Prod.ext ?_ ?_⟩
  · show (z.2 * c.1 + z.1) % c.1 = z.1
    rw [Int.add_comm, Int.add_mul_emod_self_right]
    exact Int.emod_eq_of_lt hx1 hx2
  · show (z.2 * c.1 + z.1) / c.1 = z.2
    rw [Int.add_comm, Int.add_mul_ediv_right _ _ (by omega), Int.ediv_eq_zero_of_lt hx1 hx2, Int.zero_add]
/-- the law's own factor -/
def facL (n t : Int) (rows : List (Int × Int)) (u : Int) : Int := rows.foldl (fun u m => u * (m.2 ^ (t % m.1).toNat % n) % n) u
theorem pow_red {n x m t : Int} (h1 : 2 ≤ m) (h2 : 0 ≤ t) (h : x ^ m.toNat % n = 1 % n) : x ^ (t % m).toNat % n = x ^ t.toNat % n := by
  have hd := Int.emod_def t m
  have hq : 0 ≤ t / m := Int.ediv_nonneg h2 (by omega)
  have hr : 0 ≤ t % m := Int.emod_nonneg _ (by omega)
  have hm : 0 ≤ m * (t / m) := Int.mul_nonneg (by omega) hq
  have e : t.toNat = m.toNat * (t / m).toNat + (t % m).toNat := by
    rw [← Int.toNat_mul (by omega) hq, ← Int.toNat_add hm hr]
    congr 1
    omega
  rw [e, Int.pow_add]
  have := mul_cong (pow_mul_one h (t / m).toNat) (show x ^ (t % m).toNat % n = x ^ (t % m).toNat % n from rfl)
  rw [this, Int.one_mul]
theorem facL_ok {n t : Int} (ht : 0 ≤ t) : ∀ (rows : List (Int × Int)) (u : Int), (∀ m ∈ rows, 2 ≤ m.1 ∧ m.2 ^ m.1.toNat % n = 1 % n) → facL n t rows u % n = u * mult (rows.map (·.2)) ^ t.toNat % n
  | [], u, _ => by
    show u % n = u * mult [] ^ t.toNat % n
    rw [mult_nil, Int.one_pow, Int.mul_one]
  | m :: rows, u, h => by
    have hm := h m List.mem_cons_self
    have ih := facL_ok ht rows (u * (m.2 ^ (t % m.1).toNat % n) % n) fun k hk => h k (List.mem_cons_of_mem _ hk)
    show facL n t rows (u * (m.2 ^ (t % m.1).toNat % n) % n) % n = _
    rw [ih, List.map_cons, mult_cons, Int.mul_pow, ← Int.mul_assoc]
    refine mul_cong ?_ rfl
    rw [Int.emod_emod_of_dvd _ (Int.dvd_refl n)]
    exact mul_cong rfl (by rw [Int.emod_emod_of_dvd _ (Int.dvd_refl n)]; exact pow_red hm.1 ht hm.2)
theorem facL_fac {c : Clk} (h : OKc c) {t : Int} (ht : 0 ≤ t) : facL c.1 t c.2 1 % c.1 = fac c t.toNat := by
  rw [facL_ok ht c.2 1 fun m hm => ⟨(h.m m hm).1.1, h.rt m hm⟩, Int.one_mul]
  rfl
end K01
namespace K01
open PySem PySem.Spec PyProof.Rows L2 VL
variable [Tb]
section
variable {P : Program} {w : World} {K : PySem.W.Frag} {mg : Str → Option Value} {base : Heap} {C : Addr}
abbrev nLT : List Str := ["_law_clock_here", "_law_told", "_law_row"]
theorem scLT : FnScope nLT ["_law_clock_here"] (defScope (topS 41)) := ⟨rfl, rfl, rfl, by decide +kernel, rfl, by decide +kernel, by decide +kernel⟩
theorem fn_lturns (A : At K mg "_law_turns" 41 ["_law_clock_here"]) : FnV P w K mg base 1 "_law_turns" ["_law_clock_here"] R_turns := by
  refine fn_at A scLT fun args r h hl => ?_
  obtain ⟨c, hc, rfl, rfl⟩ := h
  have loop : ∀ (V : PV) (rows : List (Int × Int)) (u : Int) (s : Sl), (∀ m ∈ rows, 2 ≤ m.1 ∧ m.1 ≤ 60) → ∃ s', LoopV (gam P w K mg base nLT (topS 41) 0 true) (.one 2) (forBody (nthS (defBody (topS 41)) 1)) (rows.map pr) [.val V, .val (.int u), s] (.nx [.val V, .val (.int (u * mult (rows.map (·.1)))), s']) := by
    intro V rows
    induction rows with
    | nil => exact fun u s _ => ⟨s, by rw [List.map_nil, List.map_nil, mult_nil, Int.mul_one]; exact .nil⟩
    | cons m rows ih =>
      intro u s hm
      have h1 := hm m List.mem_cons_self
      obtain ⟨s', hL⟩ := ih (u * m.1) (.val (pr m)) fun q hq => hm q (List.mem_cons_of_mem _ hq)
      rw [Int.mul_assoc, ← mult_cons] at hL
      exact ⟨s', .next trivial (ss_one (sv_set (n := 1) rfl (.inl rfl) (ev_mul (v 1) (ev_ixT (n := 0) (v 2) ev_int rfl rfl) (.inr (by omega))))) hL⟩
  obtain ⟨s', hL⟩ := loop (clkV c) c.2 1 .no fun m hm => (hc.m m hm).1
  rw [Int.one_mul] at hL
  exact ⟨_, .rt, ss_cons (sv_set (n := 1) rfl (.inl rfl) ev_int) (ss_cons (sv_for rfl (iv_tup (ev_ixT (n := 1) (v 0) ev_int rfl rfl)) (bv_one rfl (.inl rfl)) hL) (ss_one (sv_ret (v 1))))⟩
abbrev nLF : List Str := ["_law_clock_here", "_law_turn", "_law_told", "_law_row"]
abbrev pLF : List Str := ["_law_clock_here", "_law_turn"]
theorem scLF : FnScope nLF pLF (defScope (topS 42)) := ⟨rfl, rfl, rfl, by decide +kernel, rfl, by decide +kernel, by decide +kernel⟩
theorem fn_lfac (A : At K mg "_law_factor" 42 pLF) (b : Bt mg) (F : FnV P w K mg base 1 "_law_power" pLPow R_lpow) : FnV P w K mg base 2 "_law_factor" pLF R_fac := by
  refine fn_at A scLF fun args r h hl => ?_
  obtain ⟨c, t, hc, h1, h2, rfl, rfl⟩ := h
  have hb := hc.b1; have hb2 := hc.b2
  have loop : ∀ (rows : List (Int × Int)) (u : Int) (s : Sl), (∀ m ∈ rows, (2 ≤ m.1 ∧ m.1 ≤ 60) ∧ 1 ≤ m.2 ∧ m.2 ≤ 60) → (0 ≤ u ∧ u < 100) → ∃ s', LoopV (gam P w K mg base nLF (topS 42) 1 true) (.one 3) (forBody (nthS (defBody (topS 42)) 1)) (rows.map pr) [.val (clkV c), .val (.int t), .val (.int u), s] (.nx [.val (clkV c), .val (.int t), .val (.int (facL c.1 t rows u)), s']) := by
    intro rows
    induction rows with
    | nil => exact fun u s _ _ => ⟨s, .nil⟩
    | cons m rows ih =>
      intro u s hm hu
      have h1 := hm m List.mem_cons_self
      have hn := emod_b (a := u * (m.2 ^ (t % m.1).toNat % c.1)) hb
      have hp := emod_b (a := m.2 ^ (t % m.1).toNat) hb
      have ht := emod_b (a := t) (n := m.1) (by omega)
      obtain ⟨s', hL⟩ := ih (u * (m.2 ^ (t % m.1).toNat % c.1) % c.1) (.val (pr m)) (fun q hq => hm q (List.mem_cons_of_mem _ hq)) (by omega)
      refine ⟨s', .next trivial (ss_one (sv_set (n := 2) rfl (.inl rfl) (ev_mod (ev_toint (ev_mul (v 2) (ev_call F rfl (Nat.le_refl _) (av_cons (ev_ixT (n := 1) (v 3) ev_int rfl rfl) (av_cons (ev_mod (ev_toint (v 1) b.int) (ev_ixT (n := 0) (v 3) ev_int rfl rfl) (by omega)) (av_cons (ev_ixT (n := 0) (v 0) ev_int rfl rfl) av_nil))) ⟨m.2, (t % m.1).toNat, c.1, by omega, hb, by omega, by omega, ?_, rfl⟩ rfl) (.inl (by omega))) b.int) (ev_ixT (n := 0) (v 0) ev_int rfl rfl) (by omega)))) hL⟩
      rw [show (((t % m.1).toNat : Nat) : Int) = t % m.1 by omega]
  obtain ⟨s', hL⟩ := loop c.2 1 .no (fun m hm => hc.m m hm) (by decide)
  refine ⟨_, .rt, ss_cons (sv_set (n := 2) rfl (.inl rfl) ev_int) (ss_cons (sv_for rfl (iv_tup (ev_ixT (n := 1) (v 0) ev_int rfl rfl)) (bv_one rfl (.inl rfl)) hL) (ss_one (sv_ret (EV.to (ev_mod (ev_toint (v 2) b.int) (ev_ixT (n := 0) (v 0) ev_int rfl rfl) (by omega)) (congrArg PV.int (facL_fac hc h1))))))⟩
abbrev nLTk : List Str := ["_law_clock_here", "_law_move_here", "_law_beat"]
theorem scLTk : FnScope nLTk nLTk (defScope (topS 43)) := ⟨rfl, rfl, rfl, by decide +kernel, rfl, by decide +kernel, by decide +kernel⟩
theorem fn_ltakes (A : At K mg "_law_takes" 43 nLTk) (b : Bt mg) (F : FnV P w K mg base 2 "_law_factor" pLF R_fac) : FnV P w K mg base 3 "_law_takes" nLTk R_ba := by
  refine fn_at A scLTk fun args r h hl => ?_
  obtain ⟨c, z, y, hc, hz, rfl, rfl⟩ := h
  have := hc.b1; have := hc.b2; have := hc.t2; have := hz.t1; have := hz.t2
  have hf := fac_b hc z.2.toNat
  exact ⟨_, .rt, ss_one (sv_ret (ev_mod (ev_toint (ev_add (ev_mul (ev_call F rfl (Nat.le_refl _) (av_cons (v 0) (av_cons (ev_ixT (n := 1) (v 1) ev_int rfl rfl) av_nil)) ⟨c, z.2, hc, by omega, by omega, rfl, rfl⟩ rfl) (v 2) (.inl (by omega))) (ev_ixT (n := 0) (v 1) ev_int rfl rfl)) b.int) (ev_ixT (n := 0) (v 0) ev_int rfl rfl) (by omega)))⟩
abbrev nLTh : List Str := ["_law_clock_here", "_law_one_here", "_law_other", "_law_shift"]
abbrev pLTh : List Str := ["_law_clock_here", "_law_one_here", "_law_other"]
theorem scLTh : FnScope nLTh pLTh (defScope (topS 44)) := ⟨rfl, rfl, rfl, by decide +kernel, rfl, by decide +kernel, by decide +kernel⟩
theorem beat_zero {c : Clk} {z : Int × Int} (hz : Mv c z) : beatA c z 0 = z.1 := by
  show (fac c z.2.toNat * 0 + z.1) % c.1 = z.1
  rw [Int.mul_zero, Int.zero_add]
  exact Int.emod_eq_of_lt hz.x1 hz.x2
theorem fn_lthen (A : At K mg "_law_then" 44 pLTh) (b : Bt mg) (F : FnV P w K mg base 3 "_law_takes" nLTk R_ba) (F2 : FnV P w K mg base 1 "_law_turns" ["_law_clock_here"] R_turns) : FnV P w K mg base 4 "_law_then" pLTh R_join := by
  refine fn_at A scLTh fun args r h hl => ?_
  obtain ⟨c, z, y, hc, hz, hy, rfl, rfl⟩ := h
  have := hc.t1
  exact ⟨_, .rt, ss_cons (sv_set (n := 3) rfl (.inl rfl) (ev_call F rfl (Nat.le_refl _) (av_cons (v 0) (av_cons (v 2) (av_cons (EV.to (ev_call F rfl (Nat.le_refl _) (av_cons (v 0) (av_cons (v 1) (av_cons ev_int av_nil))) ⟨c, z, 0, hc, hz, rfl, rfl⟩ rfl) (congrArg PV.int (beat_zero hz))) av_nil))) ⟨c, y, z.1, hc, hy, rfl, rfl⟩ rfl))
    (ss_one (sv_ret (ev_tup (av_cons (v 3) (av_cons (ev_mod (ev_toint (ev_add (ev_ixT (n := 1) (v 1) ev_int rfl rfl) (ev_ixT (n := 1) (v 2) ev_int rfl rfl)) b.int) (ev_call F2 rfl (show (1:Nat) ≤ 3 by decide) (av_cons (v 0) av_nil) ⟨c, hc, rfl, rfl⟩ rfl) (by omega)) av_nil)) (show 2 ≤ 100000 by decide))))⟩
abbrev nLB : List Str := ["_law_clock_here", "_law_move_here", "_law_turns_here", "_law_turn", "_law_found", "_law_x"]
abbrev pLB : List Str := ["_law_clock_here", "_law_move_here"]
theorem scLB : FnScope nLB pLB (defScope (topS 45)) := ⟨rfl, rfl, rfl, by decide +kernel, rfl, by decide +kernel, by decide +kernel⟩
theorem fn_lback (A : At K mg "_law_back" 45 pLB) (b : Bt mg) (F : FnV P w K mg base 4 "_law_then" pLTh R_join) (F2 : FnV P w K mg base 1 "_law_turns" ["_law_clock_here"] R_turns) : FnV P w K mg base 5 "_law_back" pLB R_back := by
  refine fn_at A scLB fun args r h hl => ?_
  obtain ⟨c, z, hc, hz, rfl, rfl⟩ := h
  have := hc.b1; have := hc.b2; have := hc.t1; have := hc.t2
  have hn : 0 ≤ negT c z.2 ∧ negT c z.2 < turnsIn c := emod_b hc.t1
  refine ⟨_, .rt, ss_cons (sv_set (n := 2) rfl (.inl rfl) (ev_call F2 rfl (show (1:Nat) ≤ 4 by decide) (av_cons (v 0) av_nil) ⟨c, hc, rfl, rfl⟩ rfl)) (ss_cons (sv_set (n := 3) (p := .int (negT c z.2)) rfl (.inr rfl) (ev_mod (ev_toint (ev_neg (ev_ixT (n := 1) (v 1) ev_int rfl rfl)) b.int) (v 2) (by omega)))
    (ss_own_val (n := 4) (xs := ([(backM c z).1] : List Int).map PV.int) (SV.to (sv_lcM (n := 4) [("_law_x", 5)] (.one 5) PV.int (span 0 c.1) (fun x => decide (joinM c z (x, negT c z.2) = (0, 0))) PV.int rfl rfl rfl rfl (by decide +kernel) rfl ?_ ?_ ?_ ?_ ?_ fun x hx => ⟨trivial, tvs_one ?_, fun _ => v 5⟩) ?_) (show 4 < 6 by decide) (ss_one (sv_ret (ev_tup (av_cons (ev_ixL (n := 0) (lv_val (v 4)) ev_int rfl rfl) (av_cons (v 3) av_nil)) (show 2 ≤ 100000 by decide))))))⟩
  · exact IV.to (iv_rng1 (ev_ixT (n := 0) (v 0) ev_int rfl rfl) (by omega) (by omega) b.range) (rng_span1 _)
  · rw [span_len]; omega
  · exact blkOk_by (N := nLB) (sc := defScope (topS 45)) (by decide +kernel)
  · exact bv_one rfl (.inl rfl)
  · decide
  · have hx' := mem_span.mp hx
    exact (cv_eqP (ev_call F rfl (Nat.le_refl _) (av_cons (v 0) (av_cons (v 1) (av_cons (ev_tup (av_cons (v 5) (av_cons (v 3) av_nil)) (show 2 ≤ 100000 by decide)) av_nil))) ⟨c, z, (x, negT c z.2), hc, hz, ⟨hx'.1, hx'.2, hn.1, hn.2⟩, rfl, rfl⟩ rfl) (ev_const 2 (by decide +kernel))).tv
  · rw [found_back hc hz]
abbrev nLTm : List Str := ["_law_clock_here", "_law_move_here", "_law_many_here", "_law_told", "_law_k"]
abbrev pLTm : List Str := ["_law_clock_here", "_law_move_here", "_law_many_here"]
theorem scLTm : FnScope nLTm pLTm (defScope (topS 46)) := ⟨rfl, rfl, rfl, by decide +kernel, rfl, by decide +kernel, by decide +kernel⟩
abbrev R_ltm : Rel := fun args r => ∃ (c : Clk) (z : Int × Int) (i : Int), OKc c ∧ Mv c z ∧ args = [clkV c, pr z, .int i] ∧ r = .ok (pr (timesM c z i))
theorem fn_ltimes (A : At K mg "_law_times" 46 pLTm) (b : Bt mg) (F : FnV P w K mg base 4 "_law_then" pLTh R_join) (F2 : FnV P w K mg base 1 "_law_turns" ["_law_clock_here"] R_turns) : FnV P w K mg base 5 "_law_times" pLTm R_ltm := by
  refine fn_at A scLTm fun args r h hl => ?_
  obtain ⟨c, y, i, hc, my, rfl, rfl⟩ := h
  have loop : ∀ (V : PV) (n j : Nat) (its : List Int) (s : Sl), its.length = n → ∃ s', LoopV (gam P w K mg base nLTm (topS 46) 4 true) (.one 4) (forBody (nthS (defBody (topS 46)) 1)) (its.map PV.int) [.val (clkV c), .val (pr y), .val V, .val (pr (walkM c y j)), s] (.nx [.val (clkV c), .val (pr y), .val V, .val (pr (walkM c y (j + n))), s']) := by
    intro V n
    induction n with
    | zero =>
      intro j its s hl
      obtain rfl : its = [] := List.length_eq_zero_iff.mp hl
      exact ⟨s, .nil⟩
    | succ n ih =>
      intro j its s hl
      match its, hl with
      | i :: its, hl =>
        obtain ⟨s', hL⟩ := ih (j + 1) its (.val (.int i)) (by simpa using hl)
        rw [show j + 1 + n = j + (n + 1) by omega] at hL
        exact ⟨s', .next trivial (ss_one (sv_set (n := 3) rfl (.inl rfl) (ev_call F rfl (Nat.le_refl _) (av_cons (v 0) (av_cons (v 3) (av_cons (v 1) av_nil))) ⟨c, walkM c y j, y, hc, walk_mv hc y j, my, rfl, rfl⟩ rfl))) hL⟩
  have hs := size_b hc
  have hm := emod_b (a := i) hs.1
  have := hc.b1; have := hc.b2
  obtain ⟨s', hL⟩ := loop (.int i) (i % sizeIn c).toNat 0 (span 0 (i % sizeIn c)) .no (by rw [span_len]; omega)
  rw [Nat.zero_add] at hL
  refine ⟨_, .rt, ss_cons (sv_set (n := 3) (p := pr (0, 0)) rfl (.inl rfl) (ev_const 2 (by decide +kernel))) (ss_cons (sv_for rfl (IV.to (iv_rng1 (j := i % sizeIn c) (ev_mod (j := sizeIn c) (ev_toint (v 2) b.int) (ev_mul (i := c.1) (j := turnsIn c) (ev_ixT (n := 0) (v 0) ev_int rfl rfl) (ev_call F2 rfl (show (1:Nat) ≤ 4 by decide) (av_cons (v 0) av_nil) ⟨c, hc, rfl, rfl⟩ rfl) (.inl (by omega))) (by omega)) (by omega) (by omega) b.range) (rng_span1 _)) (bv_one rfl (.inl rfl)) hL) (ss_one (sv_ret (v 3))))⟩
/-! ### moves and numbers that are drawn -/
def moveF (f : Feed) (c : Clk) : (Int × Int) × Feed :=
  if (pickF f 4).1 = 1 then ((c.1 - 1, turnsIn c - 1), (pickF f 4).2)
  else (((pickF (pickF f 4).2 c.1).1, (pickF (pickF (pickF f 4).2 c.1).2 (turnsIn c)).1), (pickF (pickF (pickF f 4).2 c.1).2 (turnsIn c)).2)
theorem move_mv {f : Feed} {c : Clk} (h : OKc c) : Mv c (moveF f c).1 := by
  have hb := h.b1
  have ht := h.t1
  unfold moveF
  split
  · exact ⟨by show 0 ≤ c.1 - 1; omega, by show c.1 - 1 < c.1; omega, by show 0 ≤ turnsIn c - 1; omega, by show turnsIn c - 1 < turnsIn c; omega⟩
  · have h1 := pick_b (pickF f 4).2 h.b1
    have h2 := pick_b (pickF (pickF f 4).2 c.1).2 h.t1
    exact ⟨h1.1, h1.2, h2.1, h2.2⟩
abbrev nLM : List Str := ["_law_feed_here", "_law_clock_here"]
theorem scLM : FnScope nLM nLM (defScope (topS 47)) := ⟨rfl, rfl, rfl, by decide +kernel, rfl, by decide +kernel, by decide +kernel⟩
abbrev R_lmove : RelM := fun xs args p xs' => ∃ (f : Feed) (c : Clk), OKc c ∧ xs = fdV f ∧ args = [clkV c] ∧ p = pr (moveF f c).1 ∧ xs' = fdV (moveF f c).2
theorem fn_lmove (A : At K mg "_law_move" 47 nLM) (F : FnVM P w K mg base 1 "_law_pick" pPick R_pick) (F2 : FnV P w K mg base 1 "_law_turns" ["_law_clock_here"] R_turns) : FnVM P w K mg base 2 "_law_move" nLM R_lmove := by
  obtain ⟨g, fd, Fn, hm, hb⟩ := A.ex
  refine fn_defM Fn scLM hm hb fun a xs args p xs' h hl => ?_
  obtain ⟨f, c, hc, rfl, rfl, rfl, rfl⟩ := h
  have := hc.b1; have := hc.b2; have := hc.t1; have := hc.t2
  unfold moveF
  by_cases h0 : (pickF f 4).1 = 1
  · rw [if_pos h0]
    exact ⟨[.ow (some a) (fdV (pickF f 4).2), .val (clkV c)], rfl, ss_stop (sv_ifM_t (TM.to (tm_eqi (em_pick F ev_int (by decide) (by decide) 0) ev_int) (decide_eq_true h0)) (ss_one (sv_reto (ev_tup (av_cons (ev_sub (ev_ixT (n := 0) (v 1) ev_int rfl rfl) ev_int) (av_cons (ev_sub (ev_call F2 rfl (Nat.le_refl _) (av_cons (v 1) av_nil) ⟨c, hc, rfl, rfl⟩ rfl) ev_int) av_nil)) (show 2 ≤ 100000 by decide)))))⟩
  · rw [if_neg h0]
    exact ⟨[.ow (some a) (fdV (pickF (pickF (pickF f 4).2 c.1).2 (turnsIn c)).2), .val (clkV c)], rfl, ss_cons (sv_ifM_f (TM.to (tm_eqi (em_pick F ev_int (by decide) (by decide) 0) ev_int) (decide_eq_false h0)) ss_nil)
      (SS.to (ss_one (sv_retM (em_tup (am_cons (em_pick (m := c.1) F (ev_ixT (n := 0) (v 1) ev_int rfl rfl) (by omega) (by omega) 0) (am_cons (em_pick (m := turnsIn c) F (ev_call F2 rfl (Nat.le_refl _) (av_cons (v 1) av_nil) ⟨c, hc, rfl, rfl⟩ rfl) (by omega) (by omega) 0) am_nil)) (show 2 ≤ 100000 by decide)))) rfl)⟩
def manyF (f : Feed) (z : Int) : Int × Feed :=
  if (pickF f 5).1 = 0 then ((pickF (pickF f 5).2 15).1 - 7, (pickF (pickF f 5).2 15).2)
  else if (pickF f 5).1 = 1 then (z * ((pickF (pickF f 5).2 7).1 - 3) + (pickF (pickF (pickF f 5).2 7).2 3).1 - 1, (pickF (pickF (pickF f 5).2 7).2 3).2)
  else if (pickF f 5).1 = 2 then ((pickF (pickF f 5).2 200).1 - 100, (pickF (pickF f 5).2 200).2)
  else if (pickF f 5).1 = 3 then (10 ^ 58 * ((pickF (pickF f 5).2 19).1 - 9) + (pickF (pickF (pickF f 5).2 19).2 (10 ^ 9)).1, (pickF (pickF (pickF f 5).2 19).2 (10 ^ 9)).2)
  else ((10 ^ 59 + (pickF (pickF f 5).2 (10 ^ 9)).1) * (2 * (pickF (pickF (pickF f 5).2 (10 ^ 9)).2 2).1 - 1), (pickF (pickF (pickF f 5).2 (10 ^ 9)).2 2).2)
abbrev nLMy : List Str := ["_law_feed_here", "_law_size", "_law_kind"]
abbrev pLMy : List Str := ["_law_feed_here", "_law_size"]
theorem scLMy : FnScope nLMy pLMy (defScope (topS 48)) := ⟨rfl, rfl, rfl, by decide +kernel, rfl, by decide +kernel, by decide +kernel⟩
abbrev R_lmany : RelM := fun xs args p xs' => ∃ (f : Feed) (z : Int), 0 ≤ z ∧ z ≤ 60 ∧ xs = fdV f ∧ args = [.int z] ∧ p = .int (manyF f z).1 ∧ xs' = fdV (manyF f z).2
theorem fn_lmany (A : At K mg "_law_many" 48 pLMy) (F : FnVM P w K mg base 1 "_law_pick" pPick R_pick) : FnVM P w K mg base 2 "_law_many" pLMy R_lmany := by
  obtain ⟨g, fd, Fn, hm, hb⟩ := A.ex
  refine fn_defM Fn scLMy hm hb fun a xs args p xs' h hl => ?_
  obtain ⟨f, z, h1, h2, rfl, rfl, rfl, rfl⟩ := h
  have start : ∀ {sts : List Stmt} {out : Out}, SS (gam P w K mg base nLMy (topS 48) 1 true) [.ow (some a) (fdV (pickF f 5).2), .val (.int z), .val (.int (pickF f 5).1)] ((defBody (topS 48)).drop 1) out → SS (gam P w K mg base nLMy (topS 48) 1 true) (startM 3 a (fdV f) [.int z]) (defBody (topS 48)) out := fun {sts out} q =>
    ss_cons (SV.to (sv_setM (n := 2) rfl (.inl rfl) (em_pick F ev_int (by decide) (by decide) 0)) rfl) q
  unfold manyF
  generalize (pickF f 5).1 = kind at *
  generalize (pickF f 5).2 = f at *
  by_cases k0 : kind = 0
  · rw [if_pos k0]
    exact ⟨[.ow (some a) (fdV (pickF f 15).2), .val (.int z), .val (.int kind)], rfl, start (sts := []) (ss_stop (sv_if_t (TV.to (cv_eqi (v 2) ev_int).tv (decide_eq_true k0)) (SS.to (ss_one (sv_retM (em_sub (em_pick (m := 15) F ev_int (by decide) (by decide) 0) (em_ev ev_int)))) rfl)))⟩
  · rw [if_neg k0]
    have t0 : SV (gam P w K mg base nLMy (topS 48) 1 true) [.ow (some a) (fdV f), .val (.int z), .val (.int kind)] (nthS (defBody (topS 48)) 1) (.nx [.ow (some a) (fdV f), .val (.int z), .val (.int kind)]) := sv_if_f (TV.to (cv_eqi (v 2) ev_int).tv (decide_eq_false k0)) ss_nil
    by_cases k1 : kind = 1
    · rw [if_pos k1]
      have hp := pick_b f (m := 7) (by decide)
      exact ⟨[.ow (some a) (fdV (pickF (pickF f 7).2 3).2), .val (.int z), .val (.int kind)], rfl, start (sts := []) (ss_cons t0 (ss_stop (sv_if_t (TV.to (cv_eqi (v 2) ev_int).tv (decide_eq_true k1)) (SS.to (ss_one (sv_retM (em_sub (em_add (em_mul (em_ev (v 1)) (em_sub (em_pick (m := 7) F ev_int (by decide) (by decide) 0) (em_ev ev_int)) (.inl (by omega))) (em_pick (m := 3) F ev_int (by decide) (by decide) 0)) (em_ev ev_int)))) rfl))))⟩
    · rw [if_neg k1]
      have t1 : SV (gam P w K mg base nLMy (topS 48) 1 true) [.ow (some a) (fdV f), .val (.int z), .val (.int kind)] (nthS (defBody (topS 48)) 2) (.nx [.ow (some a) (fdV f), .val (.int z), .val (.int kind)]) := sv_if_f (TV.to (cv_eqi (v 2) ev_int).tv (decide_eq_false k1)) ss_nil
      by_cases k2 : kind = 2
      · rw [if_pos k2]
        exact ⟨[.ow (some a) (fdV (pickF f 200).2), .val (.int z), .val (.int kind)], rfl, start (sts := []) (ss_cons t0 (ss_cons t1 (ss_stop (sv_if_t (TV.to (cv_eqi (v 2) ev_int).tv (decide_eq_true k2)) (SS.to (ss_one (sv_retM (em_sub (em_pick (m := 200) F ev_int (by decide) (by decide) 0) (em_ev ev_int)))) rfl)))))⟩
      · rw [if_neg k2]
        have t2 : SV (gam P w K mg base nLMy (topS 48) 1 true) [.ow (some a) (fdV f), .val (.int z), .val (.int kind)] (nthS (defBody (topS 48)) 3) (.nx [.ow (some a) (fdV f), .val (.int z), .val (.int kind)]) := sv_if_f (TV.to (cv_eqi (v 2) ev_int).tv (decide_eq_false k2)) ss_nil
        by_cases k3 : kind = 3
        · rw [if_pos k3]
          have hp := pick_b f (m := 19) (by decide)
          exact ⟨[.ow (some a) (fdV (pickF (pickF f 19).2 (10 ^ 9)).2), .val (.int z), .val (.int kind)], rfl, start (sts := []) (ss_cons t0 (ss_cons t1 (ss_cons t2 (ss_stop (sv_if_t (TV.to (cv_eqi (v 2) ev_int).tv (decide_eq_true k3)) (SS.to (ss_one (sv_retM (em_add (em_mul (em_ev (ev_pow ev_int ev_int ⟨by decide, by decide, by decide⟩)) (em_sub (em_pick (m := 19) F ev_int (by decide) (by decide) 0) (em_ev ev_int)) (.inr (by omega))) (em_pick (m := 10 ^ 9) F (ev_pow ev_int ev_int ⟨by decide, by decide, by decide⟩) (by decide) (by decide) 0)))) rfl))))))⟩
        · rw [if_neg k3]
          have t3 : SV (gam P w K mg base nLMy (topS 48) 1 true) [.ow (some a) (fdV f), .val (.int z), .val (.int kind)] (nthS (defBody (topS 48)) 4) (.nx [.ow (some a) (fdV f), .val (.int z), .val (.int kind)]) := sv_if_f (TV.to (cv_eqi (v 2) ev_int).tv (decide_eq_false k3)) ss_nil
          have hp := pick_b (pickF f (10 ^ 9)).2 (m := 2) (by decide)
          exact ⟨[.ow (some a) (fdV (pickF (pickF f (10 ^ 9)).2 2).2), .val (.int z), .val (.int kind)], rfl, start (sts := []) (ss_cons t0 (ss_cons t1 (ss_cons t2 (ss_cons t3 (SS.to (ss_one (sv_retM (em_mul (em_add (em_ev (ev_pow ev_int ev_int ⟨by decide, by decide, by decide⟩)) (em_pick (m := 10 ^ 9) F (ev_pow ev_int ev_int ⟨by decide, by decide, by decide⟩) (by decide) (by decide) 0)) (em_sub (em_mul (em_ev ev_int) (em_pick (m := 2) F ev_int (by decide) (by decide) 0) (.inl (by decide))) (em_ev ev_int)) (.inr (by omega))))) rfl)))))⟩
end
end K01
namespace K01
open PySem PySem.Spec PyProof.Rows L2 VL
variable [Tb]
/-! ### what repr is asked for -/
theorem fit_int {i : Int} (h : i.natAbs < 10 ^ 200) : Fit (.int i) := ⟨by simp only [PV.fits, Bool.and_true, decide_eq_true_eq]; exact h, by simp [PV.bulk], by simp [PV.deep]⟩
theorem small_int {i : Int} (h1 : -1000 ≤ i) (h2 : i ≤ 100000) : i.natAbs < 10 ^ 200 := Nat.lt_of_lt_of_le (show i.natAbs < 10 ^ 6 by omega) (Nat.pow_le_pow_right (by decide) (by decide))
theorem fit_sm {i : Int} (h1 : -1000 ≤ i) (h2 : i ≤ 100000) : Fit (.int i) := fit_int (small_int h1 h2)
theorem fits_pr {z : Int × Int} (h1 : -1000 ≤ z.1 ∧ z.1 ≤ 100000) (h2 : -1000 ≤ z.2 ∧ z.2 ≤ 100000) (ps : List PV) : PV.fits (pr z :: ps) = PV.fits ps := by
  have a := small_int h1.1 h1.2
  have b := small_int h2.1 h2.2
  simp only [pr, PV.fits, decide_eq_true a, decide_eq_true b, Bool.true_and]
theorem fit_pr {z : Int × Int} (h1 : -1000 ≤ z.1 ∧ z.1 ≤ 100000) (h2 : -1000 ≤ z.2 ∧ z.2 ≤ 100000) : Fit (pr z) := ⟨by rw [fits_pr h1 h2]; simp [PV.fits], by simp [pr, PV.bulk], by simp [pr, PV.deep]⟩
theorem mv_b {c : Clk} (h : OKc c) {z : Int × Int} (hz : Mv c z) : (-1000 ≤ z.1 ∧ z.1 ≤ 100000) ∧ (-1000 ≤ z.2 ∧ z.2 ≤ 100000) := by
  have := h.b2; have := h.t2; have := hz.x1; have := hz.x2; have := hz.t1; have := hz.t2
  omega
theorem fit_mv {c : Clk} (h : OKc c) {z : Int × Int} (hz : Mv c z) : Fit (pr z) := fit_pr (mv_b h hz).1 (mv_b h hz).2
theorem fits_prs {c : Clk} (h : OKc c) : ∀ zs : List (Int × Int), (∀ z ∈ zs, Mv c z) → PV.fits (zs.map pr) = true ∧ PV.bulk (zs.map pr) = 3 * zs.length ∧ PV.deep (zs.map pr) ≤ 1
  | [], _ => by simp [PV.fits, PV.bulk, PV.deep]
  | z :: zs, hz => by
    obtain ⟨h1, h2, h3⟩ := fits_prs h zs fun y hy => hz y (List.mem_cons_of_mem _ hy)
    have hb := mv_b h (hz z List.mem_cons_self)
    refine ⟨by rw [List.map_cons, fits_pr hb.1 hb.2]; exact h1, ?_, ?_⟩
    · rw [List.map_cons]
      simp only [pr, PV.bulk, h2, List.length_cons]
      omega
    · rw [List.map_cons]
      simp only [pr, PV.deep]
      omega
/-! ### more of moves -/
theorem fac_mod {c : Clk} (h : OKc c) {a : Int} (ha : 0 ≤ a) : fac c (a % turnsIn c).toNat % c.1 = fac c a.toNat % c.1 := by
  have ht := h.t1
  have hd := Int.emod_def a (turnsIn c)
  have hq : 0 ≤ a / turnsIn c := Int.ediv_nonneg ha (by omega)
  have hr : 0 ≤ a % turnsIn c := Int.emod_nonneg _ (by omega)
  have hm : 0 ≤ turnsIn c * (a / turnsIn c) := Int.mul_nonneg (by omega) hq
  have e : a.toNat = (turnsIn c).toNat * (a / turnsIn c).toNat + (a % turnsIn c).toNat := by
    rw [← Int.toNat_mul (by omega) hq, ← Int.toNat_add hm hr]
    congr 1
    omega
  rw [e, ← fac_add, mul_cong (fac_turns h _) rfl, Int.one_mul]
theorem beat_join {c : Clk} (h : OKc c) {z y : Int × Int} (hz : Mv c z) (hy : Mv c y) (b : Int) : beatA c (joinM c z y) b = beatA c y (beatA c z b) := by
  have h1 := hz.t1
  have h2 := hy.t1
  have e : fac c ((z.2 + y.2) % turnsIn c).toNat % c.1 = fac c z.2.toNat * fac c y.2.toNat % c.1 := by
    rw [fac_mod h (by omega), fac_add, Int.toNat_add h1 h2]
  obtain ⟨q, hq⟩ := ex_of e
  obtain ⟨r, hr⟩ := md (fac c y.2.toNat * z.1 + y.1) c.1
  obtain ⟨s, hs⟩ := md (fac c z.2.toNat * b + z.1) c.1
  show (fac c ((z.2 + y.2) % turnsIn c).toNat * b + (fac c y.2.toNat * z.1 + y.1) % c.1) % c.1 = (fac c y.2.toNat * ((fac c z.2.toNat * b + z.1) % c.1) + y.1) % c.1
  rw [hq, hr, hs]
  exact em_of (q * b + r - fac c y.2.toNat * s) (by grind)
theorem due_fac {c : Clk} (h : OKc c) {t : Int} : (beatA c (0, t) 1 - beatA c (0, t) 0) % c.1 = fac c t.toNat := by
  have hf := fac_b h t.toNat
  have e1 : beatA c (0, t) 1 = fac c t.toNat := by
    show (fac c t.toNat * 1 + 0) % c.1 = _
    rw [Int.mul_one, Int.add_zero]
    exact Int.emod_eq_of_lt hf.1 hf.2
  have e2 : beatA c (0, t) 0 = 0 := by
    show (fac c t.toNat * 0 + 0) % c.1 = _
    rw [Int.mul_zero, Int.add_zero, Int.zero_emod]
  rw [e1, e2, Int.sub_zero]
  exact Int.emod_eq_of_lt hf.1 hf.2
theorem span_snoc {lo hi : Int} (h : lo ≤ hi) : span lo (hi + 1) = span lo hi ++ [hi] := by
  unfold span
  rw [show (hi + 1 - lo).toNat = (hi - lo).toNat + 1 by omega, List.range_succ, List.map_append, List.map_singleton]
  congr 2
  omega
theorem flat_len {α β : Type} (n : Nat) (f : α → List β) (h : ∀ x, (f x).length = n) : ∀ xs : List α, (xs.flatMap f).length = xs.length * n
  | [] => by simp
  | x :: xs => by rw [List.flatMap_cons, List.length_append, h x, flat_len n f h xs, List.length_cons, Nat.add_mul, Nat.one_mul, Nat.add_comm]
theorem moves_size {c : Clk} (h : OKc c) : ((movesC c).length : Int) = sizeIn c := by
  unfold movesC
  rw [flat_len c.1.toNat _ fun t => by rw [List.length_map, span_len, Int.sub_zero], span_len, Int.sub_zero, Int.natCast_mul]
  have := h.b1
  have := h.t1
  rw [show ((c.1.toNat : Nat) : Int) = c.1 by omega, show (((turnsIn c).toNat : Nat) : Int) = turnsIn c by omega, Int.mul_comm]
  rfl
theorem mem_moves {c : Clk} {z : Int × Int} (h : z ∈ movesC c) : Mv c z := by
  obtain ⟨t, ht, hz⟩ := List.mem_flatMap.mp h
  obtain ⟨x, hx, rfl⟩ := List.mem_map.mp hz
  have h1 := mem_span.mp ht
  have h2 := mem_span.mp hx
  exact ⟨h2.1, h2.2, h1.1, h1.2⟩
theorem fit_moves {c : Clk} (h : OKc c) : Fit (.tup ((movesC c).map pr)) := by
  obtain ⟨h1, h2, h3⟩ := fits_prs h (movesC c) fun z hz => mem_moves hz
  have hl := moves_size h
  have hs := h.s
  refine ⟨by simp only [PV.fits, h1, Bool.and_true], ?_, ?_⟩
  · simp only [PV.bulk, h2]
    omega
  · simp only [PV.deep]
    omega
theorem moves_last {c : Clk} (h : OKc c) : ∃ A, movesC c = A ++ [(c.1 - 1, turnsIn c - 1)] := by
  have hb := h.b1
  have ht := h.t1
  refine ⟨((span 0 (turnsIn c - 1)).flatMap fun t => (span 0 c.1).map fun x => (x, t)) ++ (span 0 (c.1 - 1)).map fun x => (x, turnsIn c - 1), ?_⟩
  have e1 := span_snoc (lo := 0) (hi := turnsIn c - 1) (by omega)
  have e2 := span_snoc (lo := 0) (hi := c.1 - 1) (by omega)
  rw [show turnsIn c - 1 + 1 = turnsIn c by omega] at e1
  rw [show c.1 - 1 + 1 = c.1 by omega] at e2
  unfold movesC
  rw [e1, List.flatMap_append, List.flatMap_singleton, List.append_assoc]
  congr 1
  conv => lhs; rw [e2]
  rw [List.map_append, List.map_singleton]
theorem last_num {c : Clk} (h : OKc c) : ((sizeIn c - 1) % c.1, (sizeIn c - 1) / c.1) = (c.1 - 1, turnsIn c - 1) := by
  have hb := h.b1
  have e : sizeIn c - 1 = (c.1 - 1) + (turnsIn c - 1) * c.1 := by unfold sizeIn; grind
  refine Prod.ext ?_ ?_
  · show (sizeIn c - 1) % c.1 = c.1 - 1
    rw [e, Int.add_mul_emod_self_right]
    exact Int.emod_eq_of_lt (by omega) (by omega)
  · show (sizeIn c - 1) / c.1 = turnsIn c - 1
    rw [e, Int.add_mul_ediv_right _ _ (by omega), Int.ediv_eq_zero_of_lt (by omega) (by omega), Int.zero_add]
section
variable {P : Program} {w : World} {K : PySem.W.Frag} {mg : Str → Option Value} {base : Heap} {C : Addr}
abbrev nSame : List Str := ["_law_told", "_law_due"]
theorem scSame : FnScope nSame nSame (defScope (topS 49)) := ⟨rfl, rfl, rfl, by decide +kernel, rfl, by decide +kernel, by decide +kernel⟩
abbrev R_same : Rel := fun args r => ∃ p : PV, Fit p ∧ args = [p, p] ∧ r = .ok (.bl true)
theorem b_same (b : Bt mg) (calm : Bool) {p : PV} (f : Fit p) : SS (gam P w K mg base nSame (topS 49) 1 calm) (start0 nSame.length [p, p]) (defBody (topS 49)) (.rt (.bl true)) :=
  ss_one (sv_ret (EV.to (cv_eqs (ev_repr (v 0) f b.repr) (ev_repr (v 1) f b.repr)).ev (by rw [decide_eq_true rfl])))
theorem fn_same (A : At K mg "_law_same" 49 nSame) (b : Bt mg) : FnV P w K mg base 2 "_law_same" nSame R_same := by
  refine fn_at A scSame fun args r h hl => ?_
  obtain ⟨p, f, rfl, rfl⟩ := h
  exact ⟨_, .rt, b_same b true f⟩
theorem fn_sameH (A : At K mg "_law_same" 49 nSame) (b : Bt mg) : FnVH P w K mg base 2 "_law_same" nSame R_same := by
  obtain ⟨f, fd, F, hm, hb⟩ := A.ex
  refine fn_defH F scSame hm hb fun args r h hl => ?_
  obtain ⟨p, f, rfl, rfl⟩ := h
  exact ⟨_, .rt, b_same b false f⟩
section
variable {G : Gam} {ρ : List Sl} {a b' : Expr} {p : PV} {p1 pos : Pos}
theorem ev_same (F : G.Fn 2 "_law_same" nSame R_same) (ha : EV G ρ a p) (hb : EV G ρ b' p) (f : Fit p) (hc : G.calm = true := by rfl) (hk : 2 ≤ G.k := by exact Nat.le_of_ble_eq_true rfl) (hg : G.sc.names.lookup ("_law_same" : Str) = some .globalImplicit := by first | rfl | decide +kernel)
    (hs : ∀ env, starEach [a, b'] env = (false, eval a env) :: starEach [b'] env := by intro _; rfl) (hs2 : ∀ env, starEach [b'] env = (false, eval b' env) :: starEach [] env := by intro _; rfl) (hpl : ∀ env, (backTo pos (starEach [b'] env)).any (·.1) = false := by intro _; rfl) : EV G ρ (.Call (.Name "_law_same" p1) [a, b'] [] pos) (.bl true) :=
  ev_call F hc hk (av_cons ha (av_cons hb av_nil hs2) hs) ⟨p, f, rfl, rfl⟩ rfl hg (by decide) hs hpl
end
/-- the program's functions on moves, by position -/
structure Fs (P : Program) (w : World) (K : PySem.W.Frag) (mg : Str → Option Value) (base : Heap) (C : Addr) : Prop where
  fat : FnV P w K mg base 4 "factor_at" nCT (R_b C "turn" turnsIn fun c i => .int (fac c i.toNat))
  thn : FnV P w K mg base 5 "then" nCOO (R_mm C "one" "other" fun c y x => pr (joinM c y x))
  bof : FnV P w K mg base 5 "back_of" nCM (R_m C "move" fun c y => pr (backM c y))
  mt : FnV P w K mg base 5 "moved_times" pMT (R_mt C)
  tb : FnV P w K mg base 5 "turned_by" pTn (R_mm C "move" "by" fun c y x => pr (turnedM c y x))
  tk : FnV P w K mg base 5 "takes" nBA (R_tk C)
  nof : FnV P w K mg base 5 "number_of" nCM (R_m C "move" fun c y => .int (y.2 * c.1 + y.1))
  mat : FnV P w K mg base 4 "move_at" nMA (R_b C "number" sizeIn fun c i => pr (i % c.1, i / c.1))
  alm : FnV P w K mg base 4 "all_moves" ["clock"] R_em
  same : FnV P w K mg base 2 "_law_same" nSame R_same
  lturns : FnV P w K mg base 1 "_law_turns" ["_law_clock_here"] R_turns
  ltk : FnV P w K mg base 3 "_law_takes" nLTk R_ba
  lth : FnV P w K mg base 4 "_law_then" pLTh R_join
  lback : FnV P w K mg base 5 "_law_back" pLB R_back
  ltm : FnV P w K mg base 5 "_law_times" pLTm R_ltm
theorem rmm {C : Addr} {z1 z2 : Str} {f : Clk → Int × Int → Int × Int → PV} {c : Clk} {y x : Int × Int} (h : OKc c) (hy : Mv c y) (hx : Mv c x) : R_mm C z1 z2 f [clkV c, pr y, pr x] (.ok (f c y x)) := ⟨c, pr y, pr x, h, fine_pr y, fine_pr x, rfl, .inr (.inr ⟨y, x, rfl, rfl, hy, hx, rfl⟩)⟩
theorem rm {C : Addr} {z1 : Str} {f : Clk → Int × Int → PV} {c : Clk} {y : Int × Int} (h : OKc c) (hy : Mv c y) : R_m C z1 f [clkV c, pr y] (.ok (f c y)) := ⟨c, pr y, h, fine_pr y, rfl, .inr ⟨y, rfl, hy, rfl⟩⟩
theorem rb {C : Addr} {z1 : Str} {m : Clk → Int} {f : Clk → Int → PV} {c : Clk} {i : Int} (h : OKc c) (h1 : 0 ≤ i) (h2 : i < m c) : R_b C z1 m f [clkV c, .int i] (.ok (f c i)) := ⟨c, .int i, h, (fine_int i).1, rfl, .inr ⟨i, rfl, h1, h2, rfl⟩⟩
theorem rtk {C : Addr} {c : Clk} {y : Int × Int} {i : Int} (h : OKc c) (hy : Mv c y) (h1 : 0 ≤ i) (h2 : i < c.1) : R_tk C [clkV c, pr y, .int i] (.ok (.int (beatA c y i))) := ⟨c, pr y, .int i, h, fine_pr y, (fine_int i).1, rfl, .inr (.inr ⟨y, i, rfl, rfl, hy, h1, h2, rfl⟩)⟩
theorem rmt {C : Addr} {c : Clk} {y : Int × Int} {i : Int} (h : OKc c) (hy : Mv c y) : R_mt C [clkV c, pr y, .int i] (.ok (pr (timesM c y i))) := ⟨c, pr y, .int i, h, fine_pr y, (fine_int i).1, rfl, .inr (.inr ⟨y, i, rfl, rfl, hy, rfl⟩)⟩
theorem beat_b {c : Clk} (h : OKc c) (z : Int × Int) (b : Int) : 0 ≤ beatA c z b ∧ beatA c z b < c.1 := emod_b h.b1
abbrev nPs : List Str := ["_law_clock_here", "_law_one_here", "_law_other", "_law_both", "_law_beat", "_law_first"]
abbrev pPs : List Str := ["_law_clock_here", "_law_one_here", "_law_other"]
theorem scPs : FnScope nPs pPs (defScope (topS 51)) := ⟨rfl, rfl, rfl, by decide +kernel, rfl, by decide +kernel, by decide +kernel⟩
abbrev R_ps : Rel := fun args r => ∃ (c : Clk) (z y : Int × Int), OKc c ∧ Mv c z ∧ Mv c y ∧ args = [clkV c, pr z, pr y] ∧ r = .ok (.bl true)
theorem fn_pairs (A : At K mg "_law_pairs" 51 pPs) (b : Bt mg) (F : Fs P w K mg base C) : FnV P w K mg base 6 "_law_pairs" pPs R_ps := by
  refine fn_at A scPs fun args r h hl => ?_
  obtain ⟨c, z, y, hc, hz, hy, rfl, rfl⟩ := h
  have hb := hc.b1; have hb2 := hc.b2
  have loop : ∀ (its : List Int) (s4 s5 : Sl), (∀ i ∈ its, 0 ≤ i ∧ i < c.1) → ∃ s4' s5', LoopV (gam P w K mg base nPs (topS 51) 5 true) (.one 4) (forBody (nthS (defBody (topS 51)) 2)) (its.map PV.int) [.val (clkV c), .val (pr z), .val (pr y), .val (pr (joinM c z y)), s4, s5] (.nx [.val (clkV c), .val (pr z), .val (pr y), .val (pr (joinM c z y)), s4', s5']) := by
    intro its
    induction its with
    | nil => exact fun s4 s5 _ => ⟨s4, s5, .nil⟩
    | cons i its ih =>
      intro s4 s5 hi
      have h1 := hi i List.mem_cons_self
      have hs : ∀ q ∈ its, 0 ≤ q ∧ q < c.1 := fun q hq => hi q (List.mem_cons_of_mem _ hq)
      have hbt := beat_b hc z i
      have hbt2 := beat_b hc y (beatA c z i)
      by_cases e : (decide (i < 12) || decide (c.1 - 3 < i)) = true
      · obtain ⟨s4', s5', hL⟩ := ih (.val (.int i)) (.val (.int (beatA c z i))) hs
        refine ⟨s4', s5', .next trivial (ss_one (sv_if_t (TV.to (tv_w (wv_or (cv_lt (v 4) ev_int).tv fun _ => wv_or1 (cv_gt (v 4) (ev_sub (ev_ixT (n := 0) (v 0) ev_int rfl rfl) ev_int)).tv)) e) ?_)) hL⟩
        refine ss_cons (sv_set (n := 5) rfl (.inl rfl) (ev_call F.tk rfl (Nat.le_refl _) (av_cons (v 0) (av_cons (v 1) (av_cons (v 4) av_nil))) (rtk hc hz h1.1 h1.2) rfl)) ?_
        refine ss_cons (sv_if_f (tv_not_t (tv_val (ev_same F.same (v 5) (ev_call F.ltk rfl (show (3:Nat) ≤ 5 by decide) (av_cons (v 0) (av_cons (v 1) (av_cons (v 4) av_nil))) ⟨c, z, i, hc, hz, rfl, rfl⟩ rfl) (fit_sm (by omega) (by omega))))) ss_nil) ?_
        exact ss_one (sv_if_f (tv_not_t (tv_val (ev_same F.same (EV.to (ev_call F.tk rfl (Nat.le_refl _) (av_cons (v 0) (av_cons (v 3) (av_cons (v 4) av_nil))) (rtk hc (join_mv hc z y) h1.1 h1.2) rfl) (congrArg PV.int (beat_join hc hz hy i))) (ev_call F.ltk rfl (show (3:Nat) ≤ 5 by decide) (av_cons (v 0) (av_cons (v 2) (av_cons (v 5) av_nil))) ⟨c, y, beatA c z i, hc, hy, rfl, rfl⟩ rfl) (fit_sm (by omega) (by omega))))) ss_nil)
      · obtain ⟨s4', s5', hL⟩ := ih (.val (.int i)) s5 hs
        exact ⟨s4', s5', .next trivial (ss_one (sv_if_f (TV.to (tv_w (wv_or (cv_lt (v 4) ev_int).tv fun _ => wv_or1 (cv_gt (v 4) (ev_sub (ev_ixT (n := 0) (v 0) ev_int rfl rfl) ev_int)).tv)) (by simpa using e)) ss_nil)) hL⟩
  obtain ⟨s4', s5', hL⟩ := loop (span 0 c.1) .no .no fun i hi => mem_span.mp hi
  refine ⟨_, .rt, ss_cons (sv_set (n := 3) rfl (.inl rfl) (ev_call F.thn rfl (Nat.le_refl _) (av_cons (v 0) (av_cons (v 1) (av_cons (v 2) av_nil))) (rmm hc hz hy) rfl)) (ss_cons (sv_if_f (tv_not_t (tv_val (ev_same F.same (v 3) (ev_call F.lth rfl (show (4:Nat) ≤ 5 by decide) (av_cons (v 0) (av_cons (v 1) (av_cons (v 2) av_nil))) ⟨c, z, y, hc, hz, hy, rfl, rfl⟩ rfl) (fit_mv hc (join_mv hc z y))))) ss_nil) ?_)⟩
  exact ss_cons (sv_for rfl (IV.to (iv_rng1 (ev_ixT (n := 0) (v 0) ev_int rfl rfl) (by omega) (by omega) b.range) (rng_span1 _)) (bv_one rfl (.inl rfl)) hL) (ss_one (sv_ret ev_bl))
abbrev nOn : List Str := ["_law_clock_here", "_law_move_here", "_law_by", "_law_many_here", "_law_back_here", "_law_turned", "_law_number"]
abbrev pOn : List Str := ["_law_clock_here", "_law_move_here", "_law_by", "_law_many_here"]
theorem scOn : FnScope nOn pOn (defScope (topS 52)) := ⟨rfl, rfl, rfl, by decide +kernel, rfl, by decide +kernel, by decide +kernel⟩
abbrev R_on : Rel := fun args r => ∃ (c : Clk) (z y : Int × Int) (i : Int), OKc c ∧ Mv c z ∧ Mv c y ∧ args = [clkV c, pr z, pr y, .int i] ∧ r = .ok (.bl true)
theorem fn_one (A : At K mg "_law_one" 52 pOn) (b : Bt mg) (F : Fs P w K mg base C) : FnV P w K mg base 6 "_law_one" pOn R_on := by
  refine fn_at A scOn fun args r h hl => ?_
  obtain ⟨c, z, y, i, hc, hz, hy, rfl, rfl⟩ := h
  have hb := hc.b1; have hb2 := hc.b2; have hs := size_b hc
  have hbk := back_mv hc z
  obtain ⟨n1, n2, n3⟩ := number_back hc hz
  have f00 : Fit (pr (0, 0)) := fit_pr (by decide) (by decide)
  refine ⟨_, .rt, ss_cons (sv_set (n := 4) rfl (.inl rfl) (ev_call F.bof rfl (Nat.le_refl _) (av_cons (v 0) (av_cons (v 1) av_nil)) (rm hc hz) rfl)) (ss_cons (sv_if_f (tv_not_t (tv_val (ev_same F.same (v 4) (ev_call F.lback rfl (Nat.le_refl _) (av_cons (v 0) (av_cons (v 1) av_nil)) ⟨c, z, hc, hz, rfl, rfl⟩ rfl) (fit_mv hc hbk)))) ss_nil) ?_)⟩
  refine ss_cons (sv_if_f (tv_w (wv_or_f (tv_not_t (tv_val (ev_same F.same (EV.to (ev_call F.thn rfl (Nat.le_refl _) (av_cons (v 0) (av_cons (v 4) (av_cons (v 1) av_nil))) (rmm hc hbk hz) rfl) (congrArg pr (back_join hc hz).1)) (ev_const 2 (by decide +kernel)) f00))) (wv_or1 (tv_not_t (tv_val (ev_same F.same (EV.to (ev_call F.thn rfl (Nat.le_refl _) (av_cons (v 0) (av_cons (v 1) (av_cons (v 4) av_nil))) (rmm hc hz hbk) rfl) (congrArg pr (back_join hc hz).2)) (ev_const 2 (by decide +kernel)) f00)))))) ss_nil) ?_
  refine ss_cons (sv_set (n := 5) (p := pr (turnedM c z y)) rfl (.inl rfl) (EV.to (ev_call F.lth rfl (show (4:Nat) ≤ 5 by decide) (av_cons (v 0) (av_cons (ev_call F.lth rfl (show (4:Nat) ≤ 5 by decide) (av_cons (v 0) (av_cons (ev_call F.lback rfl (Nat.le_refl _) (av_cons (v 0) (av_cons (v 2) av_nil)) ⟨c, y, hc, hy, rfl, rfl⟩ rfl) (av_cons (v 1) av_nil))) ⟨c, backM c y, z, hc, back_mv hc y, hz, rfl, rfl⟩ rfl) (av_cons (v 2) av_nil))) ⟨c, joinM c (backM c y) z, y, hc, join_mv hc _ _, hy, rfl, rfl⟩ rfl) (congrArg pr (turned_join hc hz hy)))) ?_
  refine ss_cons (sv_if_f (tv_w (wv_or_f (tv_not_t (tv_val (ev_same F.same (ev_call F.tb rfl (Nat.le_refl _) (av_cons (v 0) (av_cons (v 1) (av_cons (v 2) av_nil))) (rmm hc hz hy) rfl) (v 5) (fit_mv hc (turned_mv hc hz))))) (wv_or1 (tv_not_t (tv_val (ev_same F.same (EV.to (ev_call F.tb rfl (Nat.le_refl _) (av_cons (v 0) (av_cons (v 1) (av_cons (v 1) av_nil))) (rmm hc hz hz) rfl) (congrArg pr (turned_self hc hz))) (v 1) (fit_mv hc hz)))))) ) ss_nil) ?_
  refine ss_cons (sv_if_f (tv_not_t (tv_val (ev_same F.same (ev_call F.mt rfl (Nat.le_refl _) (av_cons (v 0) (av_cons (v 1) (av_cons (v 3) av_nil))) (rmt hc hz) rfl) (ev_call F.ltm rfl (Nat.le_refl _) (av_cons (v 0) (av_cons (v 1) (av_cons (v 3) av_nil))) ⟨c, z, i, hc, hz, rfl, rfl⟩ rfl) (fit_mv hc (walk_mv hc z _))))) ss_nil) ?_
  refine ss_cons (sv_if_f (tv_w (wv_or_f (tv_not_t (tv_val (ev_same F.same (EV.to (ev_call F.mt rfl (Nat.le_refl _) (av_cons (v 0) (av_cons (v 1) (av_cons ev_int av_nil))) (rmt (i := 0) hc hz) rfl) (congrArg pr (times_zero z))) (ev_const 2 (by decide +kernel)) f00))) (wv_or1 (tv_not_t (tv_val (ev_same F.same (EV.to (ev_call F.mt rfl (Nat.le_refl _) (av_cons (v 0) (av_cons (v 1) (av_cons (ev_neg ev_int) av_nil))) (rmt (i := -1) hc hz) rfl) (congrArg pr (times_back hc hz))) (v 4) (fit_mv hc hbk))))))) ss_nil) ?_
  refine ss_cons (sv_set (n := 6) rfl (.inl rfl) (ev_call F.nof rfl (Nat.le_refl _) (av_cons (v 0) (av_cons (v 1) av_nil)) (rm hc hz) rfl)) (ss_one (sv_ret (ev_and_t (ev_same F.same (v 6) (ev_add (ev_mul (ev_ixT (n := 1) (v 1) ev_int rfl rfl) (ev_ixT (n := 0) (v 0) ev_int rfl rfl) (.inr (by omega))) (ev_ixT (n := 0) (v 1) ev_int rfl rfl)) (fit_sm (by omega) (by omega))) (ev_one (ev_same F.same (EV.to (ev_call F.mat rfl (show (4:Nat) ≤ 5 by decide) (av_cons (v 0) (av_cons (v 6) av_nil)) (rb hc n1 n2) rfl) (congrArg pr n3)) (v 1) (fit_mv hc hz))))))
end
end K01
namespace K01
open PySem PySem.Spec PyProof.Rows L2 VL
variable [Tb]
theorem two_zip (ws : List V) (h : ws.length = 2) : ((["at", "word"] : List Str).zip ws).lookup ("at" : Str) = ws[0]? ∧ ((["at", "word"] : List Str).zip ws).lookup ("word" : Str) = ws[1]? := by
  match ws, h with
  | [x, y], _ => exact ⟨rfl, rfl⟩
structure ErrK (K : PySem.W.Frag) (mg : Str → Option Value) (C : Addr) : Prop where
  mgC : mg "NotUsable" = some (.ref C)
  exm : PySem.W.exmOne K (.ref C) (.ref C) = some true
  xf : XfC K C
  fw : PySem.W.findIn K (.ref C) "word" = some none
  fa : PySem.W.findIn K (.ref C) "at" = some none
section
variable {P : Program} {w : World} {K : PySem.W.Frag} {mg : Str → Option Value} {base : Heap} {C : Addr}
/-! ### all moves -/
abbrev nAl : List Str := ["_law_clock_here", "_law_turns_here", "_law_moves", "_law_t", "_law_due", "_law_last", "_law_x"]
theorem scAl : FnScope nAl ["_law_clock_here"] (defScope (topS 53)) := ⟨rfl, rfl, rfl, by decide +kernel, rfl, by decide +kernel, by decide +kernel⟩
abbrev R_al : Rel := fun args r => ∃ c : Clk, OKc c ∧ args = [clkV c] ∧ r = .ok (.bl true)
abbrev gAl (P : Program) (w : World) (K : PySem.W.Frag) (mg : Str → Option Value) (base : Heap) : Gam := gam P w K mg base nAl (topS 53) 4 true
theorem al_ext (b : Bt mg) {c : Clk} (hc : OKc c) (t : Int) (T : PV) (A : List PV) (s4 s5 s6 : Sl) (hl : A.length ≤ 5000) : SV (gAl P w K mg base) [.val (clkV c), .val T, .own A, .val (.int t), s4, s5, s6] (nthS (forBody (nthS (defBody (topS 53)) 2)) 0) (.nx [.val (clkV c), .val T, .own (A ++ (span 0 c.1).map fun x => pr (x, t)), .val (.int t), s4, s5, s6]) := by
  have hb := hc.b1; have hb2 := hc.b2
  refine SV.to (sv_extend (n := 2) (zs := (span 0 c.1).map fun x => pr (x, t)) rfl (.inl rfl) rfl (nv_lcA [("_law_x", 6)] (.one 6) PV.int (span 0 c.1) (fun x => pr (x, t)) rfl ?_ ?_ ?_ ?_ ?_ fun x hx => ⟨trivial, ?_⟩) ?_) rfl
  · exact IV.to (iv_rng1 (ev_ixT (n := 0) (v 0) ev_int rfl rfl) (by omega) (by omega) b.range) (rng_span1 _)
  · rw [span_len]; omega
  · exact blkOk_by (N := nAl) (sc := defScope (topS 53)) (by decide +kernel)
  · exact bv_one rfl (.inl rfl)
  · decide
  · exact ev_tup (av_cons (v 6) (av_cons (v 3) av_nil)) (show 2 ≤ 100000 by decide)
  · rw [List.length_map, span_len]; omega
theorem fn_all (A : At K mg "_law_all" 53 ["_law_clock_here"]) (b : Bt mg) (F : Fs P w K mg base C) : FnV P w K mg base 5 "_law_all" ["_law_clock_here"] R_al := by
  refine fn_at A scAl fun args r h hl => ?_
  obtain ⟨c, hc, rfl, rfl⟩ := h
  have hb := hc.b1; have hb2 := hc.b2; have ht := hc.t1; have ht2 := hc.t2; have hs := size_b hc
  have loop1 : ∀ (its : List Int) (T : PV) (A : List PV) (s3 s4 s5 s6 : Sl), A.length + 60 * its.length ≤ 5000 → ∃ s3', LoopV (gAl P w K mg base) (.one 3) (forBody (nthS (defBody (topS 53)) 2)) (its.map PV.int) [.val (clkV c), .val T, .own A, s3, s4, s5, s6] (.nx [.val (clkV c), .val T, .own (A ++ its.flatMap fun t => (span 0 c.1).map fun x => pr (x, t)), s3', s4, s5, s6]) := by
    intro its
    induction its with
    | nil => exact fun T A s3 s4 s5 s6 _ => ⟨s3, by rw [List.flatMap_nil, List.append_nil]; exact .nil⟩
    | cons t its ih =>
      intro T A s3 s4 s5 s6 hA
      rw [List.length_cons] at hA
      obtain ⟨s3', hL⟩ := ih T (A ++ (span 0 c.1).map fun x => pr (x, t)) (.val (.int t)) s4 s5 s6 (by rw [List.length_append, List.length_map, span_len]; omega)
      rw [List.append_assoc] at hL
      rw [List.flatMap_cons]
      exact ⟨s3', .next trivial (ss_one (al_ext b hc t T A s4 s5 s6 (by omega))) hL⟩
  have loop2 : ∀ (its : List Int) (A : List PV) (s3 s4 s5 s6 : Sl), (∀ t ∈ its, 0 ≤ t ∧ t < turnsIn c) → ∃ s3' s4', LoopV (gAl P w K mg base) (.one 3) (forBody (nthS (defBody (topS 53)) 4)) (its.map PV.int) [.val (clkV c), .val (.int (turnsIn c)), .own A, s3, s4, s5, s6] (.nx [.val (clkV c), .val (.int (turnsIn c)), .own A, s3', s4', s5, s6]) := by
    intro its
    induction its with
    | nil => exact fun A s3 s4 s5 s6 _ => ⟨s3, s4, .nil⟩
    | cons t its ih =>
      intro A s3 s4 s5 s6 hi
      have h1 := hi t List.mem_cons_self
      have hs' : ∀ q ∈ its, 0 ≤ q ∧ q < turnsIn c := fun q hq => hi q (List.mem_cons_of_mem _ hq)
      have mt : Mv c (0, t) := ⟨Int.le_refl 0, by show (0 : Int) < c.1; omega, h1.1, h1.2⟩
      have hf := fac_b hc t.toNat
      have t0 : ∀ u, (decide (t < 12) || decide (turnsIn c - 3 < t)) = u → TV (gAl P w K mg base) [.val (clkV c), .val (.int (turnsIn c)), .own A, .val (.int t), s4, s5, s6] (match nthS (forBody (nthS (defBody (topS 53)) 4)) 0 with | .If e _ _ _ => e | _ => .Constant .none 0 ⟨0, 0, 0, 0⟩) u := fun u hu => by
        subst hu
        exact tv_w (wv_or (cv_lt (v 3) ev_int).tv fun _ => wv_or1 (cv_gt (v 3) (ev_sub (v 1) ev_int)).tv)
      cases e : (decide (t < 12) || decide (turnsIn c - 3 < t)) with
      | true =>
        obtain ⟨s3', s4', hL⟩ := ih A (.val (.int t)) (.val (.int (fac c t.toNat))) s5 s6 hs'
        refine ⟨s3', s4', .next trivial (ss_one (sv_if_t (t0 _ e) ?_)) hL⟩
        refine ss_cons (sv_set (n := 4) (p := .int (fac c t.toNat)) rfl (.inl rfl) (EV.to (ev_mod (ev_toint (ev_sub (ev_call F.ltk rfl (show (3:Nat) ≤ 4 by decide) (av_cons (v 0) (av_cons (ev_tup (av_cons ev_int (av_cons (v 3) av_nil)) (show 2 ≤ 100000 by decide)) (av_cons ev_int av_nil))) ⟨c, (0, t), 1, hc, mt, rfl, rfl⟩ rfl) (ev_call F.ltk rfl (show (3:Nat) ≤ 4 by decide) (av_cons (v 0) (av_cons (ev_tup (av_cons ev_int (av_cons (v 3) av_nil)) (show 2 ≤ 100000 by decide)) (av_cons ev_int av_nil))) ⟨c, (0, t), 0, hc, mt, rfl, rfl⟩ rfl)) b.int) (ev_ixT (n := 0) (v 0) ev_int rfl rfl) (by omega)) (congrArg PV.int (due_fac hc)))) ?_
        exact ss_one (sv_if_f (tv_not_t (tv_val (ev_same F.same (ev_call F.fat rfl (Nat.le_refl _) (av_cons (v 0) (av_cons (v 3) av_nil)) (rb hc h1.1 h1.2) rfl) (v 4) (fit_sm (by omega) (by omega))))) ss_nil)
      | false =>
        obtain ⟨s3', s4', hL⟩ := ih A (.val (.int t)) s4 s5 s6 hs'
        exact ⟨s3', s4', .next trivial (ss_one (sv_if_f (t0 _ e) ss_nil)) hL⟩
  have hms := moves_size hc
  obtain ⟨A, hA⟩ := moves_last hc
  have hlast : ((movesC c).map pr)[(sizeIn c - 1).toNat]? = some (pr (c.1 - 1, turnsIn c - 1)) := by
    have hlen : A.length + 1 = (movesC c).length := by rw [hA, List.length_append, List.length_singleton]
    rw [List.getElem?_map, hA, show (sizeIn c - 1).toNat = A.length by omega, List.getElem?_concat_length]
    rfl
  obtain ⟨s3, hL1⟩ := loop1 (span 0 (turnsIn c)) (.int (turnsIn c)) [] .no .no .no .no (by rw [span_len]; show 0 + _ ≤ _; omega)
  rw [List.nil_append, em_pr] at hL1
  obtain ⟨s3', s4', hL2⟩ := loop2 (span 0 (turnsIn c)) ((movesC c).map pr) s3 .no .no .no fun t ht => mem_span.mp ht
  have mlast : Mv c (c.1 - 1, turnsIn c - 1) := ⟨by show 0 ≤ c.1 - 1; omega, by show c.1 - 1 < c.1; omega, by show 0 ≤ turnsIn c - 1; omega, by show turnsIn c - 1 < turnsIn c; omega⟩
  refine ⟨_, .rt, ss_cons (sv_set (n := 1) rfl (.inl rfl) (ev_call F.lturns rfl (show (1:Nat) ≤ 4 by decide) (av_cons (v 0) av_nil) ⟨c, hc, rfl, rfl⟩ rfl)) (ss_cons (sv_own (n := 2) rfl (.inl rfl) (nv_lst av_nil (by decide))) (ss_cons (sv_for rfl (IV.to (iv_rng1 (v 1) (by omega) (by omega) b.range) (rng_span1 _)) (bv_one rfl (.inr rfl)) hL1) ?_))⟩
  refine ss_cons (sv_if_f (tv_not_t (tv_val (ev_same F.same (ev_call F.alm rfl (Nat.le_refl _) (av_cons (v 0) av_nil) ⟨c, hc, rfl, rfl⟩ rfl) (ev_totup (qv_l (lo 2)) b.tuple) (fit_moves hc)))) ss_nil) ?_
  refine ss_cons (sv_for rfl (IV.to (iv_rng1 (v 1) (by omega) (by omega) b.range) (rng_span1 _)) (bv_one rfl (.inr rfl)) hL2) ?_
  refine ss_cons (sv_set (n := 5) (p := .int (sizeIn c - 1)) rfl (.inl rfl) (EV.to (ev_sub (ev_len (qv_l (lo 2)) b.len) ev_int) (by rw [List.length_map, hms]))) ?_
  refine ss_one (sv_ret (ev_and_t (ev_same F.same (EV.to (ev_call F.mat rfl (Nat.le_refl _) (av_cons (v 0) (av_cons (v 5) av_nil)) (rb hc (by omega) (by omega)) rfl) (congrArg pr (last_num hc))) (ev_ixL (n := (sizeIn c - 1).toNat) (lo 2) (v 5) (by omega) hlast) (fit_mv hc mlast)) (ev_one (ev_same F.same (p := pr (0, 0)) (EV.to (ev_call F.mat rfl (Nat.le_refl _) (av_cons (v 0) (av_cons ev_int av_nil)) (rb (i := 0) hc (by omega) (by omega)) rfl) (by rw [Int.zero_emod, Int.zero_ediv])) (ev_const 2 (by decide +kernel)) (fit_pr (by decide) (by decide))))))
/-! ### things that are no moves -/
def oddsV (c : Clk) : List PV := [pr (c.1, 0), pr (0, turnsIn c), pr (-1, 0), pr (0, -1), .lst [.int 0, .int 0], .tup [.int 0], .tup [.int 0, .int 0, .int 0], .non, .str "move", .int 0, .tup [.int 0, .bl true], .tup [.bl false, .int 0], .tup [.int 0, .str "0"], .tup [pr (0, 0), .int 0]]
structure Odd (c : Clk) (p : PV) : Prop where
  fine : Fine p
  no : isMoveV c p = false
theorem fine_tup {xs : List PV} (h : ∀ x ∈ xs, x.ty ≠ "?") : Fine (.tup xs) := ⟨show ("tuple" : String) ≠ "?" by decide, fun ys e => by cases e; exact h⟩
theorem fine_of {p : PV} (h : p.ty ≠ "?") (n : ∀ xs, p ≠ .tup xs) : Fine p := ⟨h, fun xs e => absurd e (n xs)⟩
theorem odds_ok (c : Clk) : ∀ p ∈ oddsV c, Odd c p := by
  intro p hp
  simp only [oddsV, List.mem_cons, List.mem_nil_iff, or_false] at hp
  rcases hp with h | h | h | h | h | h | h | h | h | h | h | h | h | h <;> subst h
  · exact ⟨fine_pr _, by show (isBelV c.1 (.int c.1) && isBelV (turnsIn c) (.int 0)) = false; simp [isBelV]⟩
  · exact ⟨fine_pr _, by show (isBelV c.1 (.int 0) && isBelV (turnsIn c) (.int (turnsIn c))) = false; simp [isBelV]⟩
  · exact ⟨fine_pr _, by show (isBelV c.1 (.int (-1)) && isBelV (turnsIn c) (.int 0)) = false; simp [isBelV]⟩
  · exact ⟨fine_pr _, by show (isBelV c.1 (.int 0) && isBelV (turnsIn c) (.int (-1))) = false; simp [isBelV]⟩
  · exact ⟨fine_of (show ("list" : String) ≠ "?" by decide) (fun xs e => by cases e), rfl⟩
  · exact ⟨fine_tup (by intro x hx; simp only [List.mem_cons, List.mem_nil_iff, or_false] at hx; subst hx; show ("int" : String) ≠ "?"; decide), rfl⟩
  · exact ⟨fine_tup (by intro x hx; simp only [List.mem_cons, List.mem_nil_iff, or_false] at hx; rcases hx with h | h | h <;> subst h <;> (show ("int" : String) ≠ "?"; decide)), rfl⟩
  · exact ⟨fine_of (show ("NoneType" : String) ≠ "?" by decide) (fun xs e => by cases e), rfl⟩
  · exact ⟨fine_of (show ("str" : String) ≠ "?" by decide) (fun xs e => by cases e), rfl⟩
  · exact ⟨fine_int 0, rfl⟩
  · exact ⟨fine_tup (by intro x hx; simp only [List.mem_cons, List.mem_nil_iff, or_false] at hx; rcases hx with h | h <;> subst h; (show ("int" : String) ≠ "?"; decide); (show ("bool" : String) ≠ "?"; decide)), by show (isBelV c.1 (.int 0) && false) = false; rw [Bool.and_false]⟩
  · exact ⟨fine_tup (by intro x hx; simp only [List.mem_cons, List.mem_nil_iff, or_false] at hx; rcases hx with h | h <;> subst h; (show ("bool" : String) ≠ "?"; decide); (show ("int" : String) ≠ "?"; decide)), rfl⟩
  · exact ⟨fine_tup (by intro x hx; simp only [List.mem_cons, List.mem_nil_iff, or_false] at hx; rcases hx with h | h <;> subst h; (show ("int" : String) ≠ "?"; decide); (show ("str" : String) ≠ "?"; decide)), by show (isBelV c.1 (.int 0) && false) = false; rw [Bool.and_false]⟩
  · exact ⟨fine_tup (by intro x hx; simp only [List.mem_cons, List.mem_nil_iff, or_false] at hx; rcases hx with h | h <;> subst h; (show ("tuple" : String) ≠ "?"; decide); (show ("int" : String) ≠ "?"; decide)), rfl⟩
abbrev nOdd : List Str := ["_law_clock_here", "_law_turns_here"]
theorem scOdd : FnScope nOdd ["_law_clock_here"] (defScope (topS 54)) := ⟨rfl, rfl, rfl, by decide +kernel, rfl, by decide +kernel, by decide +kernel⟩
abbrev R_odd : Rel := fun args r => ∃ c : Clk, OKc c ∧ args = [clkV c] ∧ r = .ok (.lst (oddsV c))
theorem fn_odd (A : At K mg "_law_odd" 54 ["_law_clock_here"]) (F : Fs P w K mg base C) : FnV P w K mg base 2 "_law_odd" ["_law_clock_here"] R_odd := by
  refine fn_at A scOdd fun args r h hl => ?_
  obtain ⟨c, hc, rfl, rfl⟩ := h
  refine ⟨_, .rt, ss_cons (sv_set (n := 1) rfl (.inl rfl) (ev_call F.lturns rfl (Nat.le_refl _) (av_cons (v 0) av_nil) ⟨c, hc, rfl, rfl⟩ rfl)) (ss_one (sv_ret ?_))⟩
  refine ev_lst ?_ (show 14 ≤ 100000 by decide)
  refine av_cons (ev_tup (av_cons (ev_ixT (n := 0) (v 0) ev_int rfl rfl) (av_cons ev_int av_nil)) (show 2 ≤ 100000 by decide)) (av_cons (ev_tup (av_cons ev_int (av_cons (v 1) av_nil)) (show 2 ≤ 100000 by decide)) ?_)
  refine av_cons (ev_tup (av_cons (ev_neg ev_int) (av_cons ev_int av_nil)) (show 2 ≤ 100000 by decide)) (av_cons (ev_tup (av_cons ev_int (av_cons (ev_neg ev_int) av_nil)) (show 2 ≤ 100000 by decide)) ?_)
  refine av_cons (ev_lst (av_cons ev_int (av_cons ev_int av_nil)) (show 2 ≤ 100000 by decide)) (av_cons (ev_const 2 (by decide +kernel)) (av_cons (ev_const 2 (by decide +kernel)) (av_cons ev_non (av_cons ev_str (av_cons ev_int ?_)))))
  exact av_cons (ev_const 2 (by decide +kernel)) (av_cons (ev_const 2 (by decide +kernel)) (av_cons (ev_const 2 (by decide +kernel)) (av_cons (ev_const 3 (by decide +kernel)) av_nil)))
end
end K01
namespace K01
open PySem PySem.Spec PyProof.Rows L2 VL
variable [Tb]
section
variable {P : Program} {w : World} {K : PySem.W.Frag} {mg : Str → Option Value} {base : Heap} {C : Addr}
/-! ### the def that hears a refusal -/
abbrev nNo : List Str := ["_law_job", "_law_word", "e"]
abbrev pNo : List Str := ["_law_job", "_law_word"]
theorem scNo : FnScope nNo pNo (defScope (topS 50)) := ⟨rfl, rfl, rfl, by decide +kernel, rfl, by decide +kernel, by decide +kernel⟩
structure NoK (P : Program) (w : World) (K : PySem.W.Frag) (mg : Str → Option Value) (base : Heap) (C gN : Addr) (fdN : FuncData) : Prop where
  F : Fun K "_law_no" "_law_no" (topS 50) gN fdN
  hm : mg "_law_no" = some (.ref gN)
  hb : Binds K fdN pNo []
  H : FnVH P w K mg base 2 "_law_same" nSame R_same
  E : ErrK K mg C
def strOk (z : Str) : Bool := decide (z.cps.size ≤ 40) && z.cps.toList.all fun c => decide (c < 16 ^ 8)
theorem fit_word {z : Str} (h : strOk z = true) : Fit (.tup [.str z, .int (-1)]) := by
  have h' : (decide (z.cps.size ≤ 40) && z.cps.toList.all fun c => decide (c < 16 ^ 8)) = true := h
  refine ⟨?_, by simp [PV.bulk], by simp [PV.deep]⟩
  simp only [PV.fits, h', Bool.and_true, Bool.true_and]
  exact decide_eq_true (small_int (by decide) (by decide))
theorem no_suite (E : ErrK K mg C) (H : FnVH P w K mg base 2 "_law_same" nSame R_same) {z : Str} (hz : strOk z = true) (k : Nat) (hk : 2 ≤ k) (a' d' : Addr) :
    SS ((gam P w K mg base nNo (topS 50) k true).suite a' C d') [.no, .val (.str z), .val (.exc a' C d' ["at", "word"] [.int (-1), .str z])] (match nthS (defBody (topS 50)) 0 with | .Try _ (.ExceptHandler _ _ s _ :: _) _ _ _ => s | _ => []) (.rt (.bl true)) :=
  ss_one (sv_ret (ev_callH H rfl hk (av_cons (ev_tup (av_cons (ev_field (ns := ["at", "word"]) (xs := [.int (-1), .str z]) (i := 2) (j := 1) E.xf E.fw rfl (.inl rfl) rfl (fun ws h => (two_zip ws h).2) rfl (show 1 < 2 by decide)) (av_cons (ev_field (ns := ["at", "word"]) (xs := [.int (-1), .str z]) (i := 2) (j := 0) E.xf E.fa rfl (.inl rfl) rfl (fun ws h => (two_zip ws h).1) rfl (show 0 < 2 by decide)) av_nil)) (show 2 ≤ 100000 by decide)) (av_cons (ev_tup (av_cons (v 1) (av_cons (ev_neg ev_int) av_nil)) (show 2 ≤ 100000 by decide)) av_nil)) ⟨_, fit_word hz, rfl, rfl⟩ rfl))
theorem ev_noK {G : Gam} {ρ : List Sl} {gN c Pt : Addr} {fdN : FuncData} {q z : Str} {params : Arguments} {body : Expr} {scope : Scope} {k2 : Nat} {cp lpos cpos pos : Pos} (N : NoK G.P G.w G.K G.mg G.base C gN fdN) (LF : LamF G c Pt q) (hx : EX (G.lam scope 5) ρ body C ["at", "word"] [.int (-1), .str z])
    (hz : strOk z = true := by decide +kernel) (hc : G.calm = true := by rfl) (hk : 7 ≤ G.k := by exact Nat.le_of_ble_eq_true rfl) {sc0 : Scope} (L : LamX.lamSB sc0 scope = true) (hsc : G.sc = sc0 := by rfl) (hg : G.sc.names.lookup ("_law_no" : Str) = some .globalImplicit := by first | rfl | decide +kernel)
    (hdef : ∀ env, defaultsOf params env = ([], []) := by intro _; rfl) (hbind : ∀ (q : Str) (cl : List (Str × Addr)) (pm cv ctv : Value), bindArgs (PySem.W.kla_fn "<lambda>" q params body scope cl pm cv ctv) ⟨[], []⟩ = pure [] := by intro _ _ _ _ _; rfl) :
    EV G ρ (.Call (.Name "_law_no" cp) [.Lambda params body scope lpos, .Constant (.str z) k2 cpos] [] pos) (.bl true) :=
  ev_no (k := 5) (ns := ["at", "word"]) (xs := [.int (-1), .str z]) N.F scNo N.hm N.hb rfl N.E.mgC rfl rfl N.E.exm (.inl rfl) (fun a' d' => no_suite N.E N.H hz 6 (by decide) a' d') LF hc hk (hsc ▸ LamX.lamS_by L) hx hg hdef hbind
/-! ### defs that make lambdas -/
structure AtL (K : PySem.W.Frag) (mg : Str → Option Value) (x : Str) (i : Nat) (ps : List Str) (c : Addr) : Prop where
  ex : ∃ f fd, Fun K x x (topS i) f fd ∧ mg x = some (.ref f) ∧ Binds K fd ps [] ∧ fd.code = .ref c
abbrev gamL (P : Program) (w : World) (K : PySem.W.Frag) (mg : Str → Option Value) (base : Heap) (N : List Str) (i k : Nat) (x : Str) (c : Addr) : Gam := { gam P w K mg base N (topS i) k true with ex := fun X => X.env.code = .ref c ∧ X.env.qual = x ++ ".<locals>." }
theorem fn_atL {x : Str} {i : Nat} {N ps : List Str} {k : Nat} {R : Rel} {c : Addr} (A : AtL K mg x i ps c) (S : FnScope N ps (defScope (topS i)))
    (body : ∀ args r, R args r → args.length = ps.length → ∃ out, Ends1 r out ∧ SS (gamL P w K mg base N i k x c) (start0 N.length args) (defBody (topS i)) out) : FnV P w K mg base (k + 1) x ps R := by
  obtain ⟨f, fd, F, hm, hb, hcode⟩ := A.ex
  refine ⟨f, fd, hm, F.kp, ?_, hb⟩
  obtain ⟨oc, od, kV, doc, pm, an, cdv, ct, osl, rfl, lk, hcd⟩ := F.ex
  obtain rfl : cdv = .ref c := hcode
  refine fnG_of lk hcd S spOf_len fun A outer s H vs Q E gd hr hsp => ?_
  obtain ⟨tt, args, r, B, rs, tr, hl, hR, hres⟩ := hsp
  obtain ⟨out, ho, hss⟩ := body args r hR hl
  exact ⟨_, pss_w, hss _ (fun c d _ H => E c d H) ⟨rfl, rfl, rfl, rfl, rfl, rfl, rfl, rfl, rfl, S.nd, gd, L2H.roomH_of hr, fun _ => hr, (fun z => by cases z), rfl, rfl⟩ ⟨L2N.takes_of rfl rfl rfl rfl, passes_of rfl, rfl, rfl⟩ _ _ _ _ _ (start_env rs tr tt) (out_of ho hres)⟩
/-- the table of a def -/
structure TabK (mg : Str → Option Value) (base : Heap) (x : Str) (c Pt : Addr) : Prop where
  tb : LamX.TabB base mg c Pt
  mem : (Pt, x ++ ".<locals>." ++ "<lambda>") ∈ Tb.T
  uni : ∀ p ∈ Tb.T, p.1 = Pt → p.2 = x ++ ".<locals>." ++ "<lambda>"
theorem TabK.lf {x : Str} {c Pt : Addr} (T : TabK mg base x c Pt) {N : List Str} {i k : Nat} : LamF (gamL P w K mg base N i k x c) c Pt (x ++ ".<locals>.") := ⟨fun X h => h, T.tb, T.mem, T.uni⟩
theorem rmm1 {z1 z2 : Str} {f : Clk → Int × Int → Int × Int → PV} {c : Clk} {p q : PV} (h : OKc c) (hp : Fine p) (hq : Fine q) (n : isMoveV c p = false) : R_mm C z1 z2 f [clkV c, p, q] (badR C z1) := ⟨c, p, q, h, hp, hq, rfl, .inl ⟨n, rfl⟩⟩
theorem rmm2 {z1 z2 : Str} {f : Clk → Int × Int → Int × Int → PV} {c : Clk} {y : Int × Int} {q : PV} (h : OKc c) (hy : Mv c y) (hq : Fine q) (n : isMoveV c q = false) : R_mm C z1 z2 f [clkV c, pr y, q] (badR C z2) := ⟨c, pr y, q, h, fine_pr y, hq, rfl, .inr (.inl ⟨move_yes hy, n, rfl⟩)⟩
abbrev nRf : List Str := ["_law_clock_here", "_law_good", "_law_odd_here", "_law_other", "_law_rows", "_law_row"]
abbrev pRf : List Str := ["_law_clock_here", "_law_good", "_law_odd_here", "_law_other"]
theorem scRf : FnScope nRf pRf (defScope (topS 55)) := ⟨rfl, rfl, rfl, by decide +kernel, rfl, by decide +kernel, by decide +kernel⟩
abbrev R_rf : Rel := fun args r => ∃ (c : Clk) (z : Int × Int) (p q : PV), OKc c ∧ Mv c z ∧ Odd c p ∧ Odd c q ∧ args = [clkV c, pr z, p, q] ∧ r = .ok (.bl true)
theorem fn_refused {c0 Pt gN : Addr} {fdN : FuncData} (A : AtL K mg "_law_refused" 55 pRf c0) (T : TabK mg base "_law_refused" c0 Pt) (N : NoK P w K mg base C gN fdN) (b : Bt mg) (F : Fs P w K mg base C) : FnV P w K mg base 8 "_law_refused" pRf R_rf := by
  refine fn_atL A scRf fun args r h hl => ?_
  obtain ⟨c, z, p, q, hc, hz, hp, hq, rfl, rfl⟩ := h
  have five : (5 : Nat) ≤ 5 := Nat.le_refl 5
  refine ⟨_, .rt, ss_cons (sv_set (n := 4) (p := .lst ((List.replicate 12 true).map PV.bl)) rfl (.inl rfl) (ev_lst ?_ (show 12 ≤ 100000 by decide))) (ss_one (sv_ret (EV.to (cv_eqi (ev_len (qv_l (lv_nv (nv_lcM [("_law_row", 5)] (.one 5) PV.bl (List.replicate 12 true) (fun x => !x) PV.bl rfl ?_ (by decide) ?_ ?_ ?_ fun x hx => ⟨trivial, tvs_one (tv_not (tv_val (v 5))), fun _ => v 5⟩))) b.len) ev_int).ev ?_)))⟩
  · refine av_cons (ev_noK (sc0 := defScope (topS 55)) N T.lf (L := by decide +kernel) (ex_call F.thn rfl five (av_cons (v 0) (av_cons (v 2) (av_cons (v 1) av_nil))) (rmm1 hc hp.fine (fine_pr z) hp.no) rfl)) ?_
    refine av_cons (ev_noK (sc0 := defScope (topS 55)) N T.lf (L := by decide +kernel) (ex_call F.thn rfl five (av_cons (v 0) (av_cons (v 1) (av_cons (v 2) av_nil))) (rmm2 hc hz hp.fine hp.no) rfl)) ?_
    refine av_cons (ev_noK (sc0 := defScope (topS 55)) N T.lf (L := by decide +kernel) (ex_call F.thn rfl five (av_cons (v 0) (av_cons (v 2) (av_cons (v 3) av_nil))) (rmm1 hc hp.fine hq.fine hp.no) rfl)) ?_
    refine av_cons (ev_noK (sc0 := defScope (topS 55)) N T.lf (L := by decide +kernel) (ex_call F.bof rfl five (av_cons (v 0) (av_cons (v 2) av_nil)) ⟨c, p, hc, hp.fine, rfl, .inl ⟨hp.no, rfl⟩⟩ rfl)) ?_
    refine av_cons (ev_noK (sc0 := defScope (topS 55)) N T.lf (L := by decide +kernel) (ex_call F.mt rfl five (av_cons (v 0) (av_cons (v 2) (av_cons ev_int av_nil))) ⟨c, p, .int 2, hc, hp.fine, (fine_int 2).1, rfl, .inl ⟨hp.no, rfl⟩⟩ rfl)) ?_
    refine av_cons (ev_noK (sc0 := defScope (topS 55)) N T.lf (L := by decide +kernel) (ex_call F.mt rfl five (av_cons (v 0) (av_cons (v 2) (av_cons ev_str av_nil))) ⟨c, p, .str "2", hc, hp.fine, show ("str" : String) ≠ "?" by decide, rfl, .inl ⟨hp.no, rfl⟩⟩ rfl)) ?_
    refine av_cons (ev_noK (sc0 := defScope (topS 55)) N T.lf (L := by decide +kernel) (ex_call F.tb rfl five (av_cons (v 0) (av_cons (v 2) (av_cons (v 1) av_nil))) (rmm1 hc hp.fine (fine_pr z) hp.no) rfl)) ?_
    refine av_cons (ev_noK (sc0 := defScope (topS 55)) N T.lf (L := by decide +kernel) (ex_call F.tb rfl five (av_cons (v 0) (av_cons (v 1) (av_cons (v 2) av_nil))) (rmm2 hc hz hp.fine hp.no) rfl)) ?_
    refine av_cons (ev_noK (sc0 := defScope (topS 55)) N T.lf (L := by decide +kernel) (ex_call F.tb rfl five (av_cons (v 0) (av_cons (v 3) (av_cons (v 2) av_nil))) (rmm1 hc hq.fine hp.fine hq.no) rfl)) ?_
    refine av_cons (ev_noK (sc0 := defScope (topS 55)) N T.lf (L := by decide +kernel) (ex_call F.tk rfl five (av_cons (v 0) (av_cons (v 2) (av_cons ev_int av_nil))) ⟨c, p, .int 0, hc, hp.fine, (fine_int 0).1, rfl, .inl ⟨hp.no, rfl⟩⟩ rfl)) ?_
    refine av_cons (ev_noK (sc0 := defScope (topS 55)) N T.lf (L := by decide +kernel) (ex_call F.tk rfl five (av_cons (v 0) (av_cons (v 2) (av_cons (ev_neg ev_int) av_nil))) ⟨c, p, .int (-1), hc, hp.fine, (fine_int (-1)).1, rfl, .inl ⟨hp.no, rfl⟩⟩ rfl)) ?_
    exact av_cons (ev_noK (sc0 := defScope (topS 55)) N T.lf (L := by decide +kernel) (ex_call F.nof rfl five (av_cons (v 0) (av_cons (v 2) av_nil)) ⟨c, p, hc, hp.fine, rfl, .inl ⟨hp.no, rfl⟩⟩ rfl)) av_nil
  · exact iv_list (v 4)
  · exact blkOk_by (N := nRf) (sc := defScope (topS 55)) (by decide +kernel)
  · exact bv_one rfl (.inl rfl)
  · decide
  · rfl
end
end K01
namespace K01
open PySem PySem.Spec PyProof.Rows L2 VL
variable [Tb]
section
variable {P : Program} {w : World} {K : PySem.W.Frag} {mg : Str → Option Value} {base : Heap} {C : Addr}
/-! ### numbers that are none -/
abbrev nNb : List Str := ["_law_clock_here", "_law_good", "_law_turns_here", "_law_rows", "_law_odd_here", "_law_row"]
abbrev pNb : List Str := ["_law_clock_here", "_law_good"]
theorem scNb : FnScope nNb pNb (defScope (topS 56)) := ⟨rfl, rfl, rfl, by decide +kernel, rfl, by decide +kernel, by decide +kernel⟩
abbrev R_nb : Rel := fun args r => ∃ (c : Clk) (z : Int × Int), OKc c ∧ Mv c z ∧ args = [clkV c, pr z] ∧ r = .ok (.bl true)
abbrev gNb (P : Program) (w : World) (K : PySem.W.Frag) (mg : Str → Option Value) (base : Heap) (c0 : Addr) : Gam := gamL P w K mg base nNb 56 7 "_law_numbers" c0
structure NoNum (p : PV) : Prop where
  ty : p.ty ≠ "?"
  bel : ∀ m, isBelV m p = false
abbrev tr (n : Nat) : List PV := List.replicate n (PV.bl true)
theorem tr_snoc (n : Nat) : tr n ++ [PV.bl true] = tr (n + 1) := (List.replicate_succ' (n := n) (a := PV.bl true)).symm
def odds1 : List PV := [.int (-1), .non, .bl true, .str "0", .tup [.int 0], .lst [.int 0], .bl false]
theorem odds1_ok : ∀ p ∈ odds1, NoNum p := by
  intro p hp
  simp only [odds1, List.mem_cons, List.mem_nil_iff, or_false] at hp
  rcases hp with h | h | h | h | h | h | h <;> subst h
  · exact ⟨show ("int" : String) ≠ "?" by decide, fun m => by simp [isBelV]⟩
  · exact ⟨show ("NoneType" : String) ≠ "?" by decide, fun m => rfl⟩
  · exact ⟨show ("bool" : String) ≠ "?" by decide, fun m => rfl⟩
  · exact ⟨show ("str" : String) ≠ "?" by decide, fun m => rfl⟩
  · exact ⟨show ("tuple" : String) ≠ "?" by decide, fun m => rfl⟩
  · exact ⟨show ("list" : String) ≠ "?" by decide, fun m => rfl⟩
  · exact ⟨show ("bool" : String) ≠ "?" by decide, fun m => rfl⟩
def odds2 : List PV := [.non, .bl true, .str "0", .tup [.int 0], .lst [.int 0], .bl false]
theorem odds2_ok : ∀ p ∈ odds2, p.ty ≠ "?" ∧ isIntV p = false := by
  intro p hp
  simp only [odds2, List.mem_cons, List.mem_nil_iff, or_false] at hp
  rcases hp with h | h | h | h | h | h <;> subst h
  · exact ⟨show ("NoneType" : String) ≠ "?" by decide, rfl⟩
  · exact ⟨show ("bool" : String) ≠ "?" by decide, rfl⟩
  · exact ⟨show ("str" : String) ≠ "?" by decide, rfl⟩
  · exact ⟨show ("tuple" : String) ≠ "?" by decide, rfl⟩
  · exact ⟨show ("list" : String) ≠ "?" by decide, rfl⟩
  · exact ⟨show ("bool" : String) ≠ "?" by decide, rfl⟩
theorem fn_numbers {c0 Pt gN : Addr} {fdN : FuncData} (A : AtL K mg "_law_numbers" 56 pNb c0) (T : TabK mg base "_law_numbers" c0 Pt) (N : NoK P w K mg base C gN fdN) (b : Bt mg) (F : Fs P w K mg base C) : FnV P w K mg base 8 "_law_numbers" pNb R_nb := by
  refine fn_atL A scNb fun args r h hl => ?_
  obtain ⟨c, z, hc, hz, rfl, rfl⟩ := h
  have hb := hc.b1; have hb2 := hc.b2; have ht := hc.t1; have ht2 := hc.t2; have hs := size_b hc
  have five : (5 : Nat) ≤ 5 := Nat.le_refl 5
  have four : (4 : Nat) ≤ 5 := by decide
  have add : ∀ {n : Nat} {t : PV} {s4 s5 : Sl} {e : Expr} {p1 p2 p3 pos : Pos}, n < 100 → EV (gNb P w K mg base c0) [.val (clkV c), .val (pr z), .val t, .own (tr n), s4, s5] e (.bl true) → (∀ env, starEach [e] env = [(false, eval e env)]) → (p2.endLine == p3.line) = true →
      SV (gNb P w K mg base c0) [.val (clkV c), .val (pr z), .val t, .own (tr n), s4, s5] (.Expr (.Call (.Attribute (.Name "_law_rows" p1) "append" p2) [e] [] p3) pos) (.nx [.val (clkV c), .val (pr z), .val t, .own (tr (n + 1)), s4, s5]) := fun hn he hs hl =>
    SV.to (sv_append (n := 3) rfl (.inl rfl) rfl he (by rw [List.length_replicate]; omega) (hs := hs) (hline := hl)) (by rw [tr_snoc]; rfl)
  have step1 : ∀ {n : Nat} {t p : PV} {s5 : Sl}, n < 90 → NoNum p → SS (gNb P w K mg base c0) [.val (clkV c), .val (pr z), .val t, .own (tr n), .val p, s5] (forBody (nthS (defBody (topS 56)) 2)) (.nx [.val (clkV c), .val (pr z), .val t, .own (tr (n + 3)), .val p, s5]) := fun {n t p s5} hn hp => by
    refine ss_cons (add (n := n) (by omega) (ev_noK (sc0 := defScope (topS 56)) N T.lf (L := by decide +kernel) (ex_call F.tk rfl five (av_cons (v 0) (av_cons (v 1) (av_cons (v 4) av_nil))) ⟨c, pr z, p, hc, fine_pr z, hp.ty, rfl, .inr (.inl ⟨move_yes hz, hp.bel _, rfl⟩)⟩ rfl)) (by intro _; rfl) rfl) ?_
    refine ss_cons (add (n := n + 1) (by omega) (ev_noK (sc0 := defScope (topS 56)) N T.lf (L := by decide +kernel) (ex_call F.fat rfl four (av_cons (v 0) (av_cons (v 4) av_nil)) ⟨c, p, hc, hp.ty, rfl, .inl ⟨hp.bel _, rfl⟩⟩ rfl)) (by intro _; rfl) rfl) ?_
    exact ss_one (add (n := n + 2) (by omega) (ev_noK (sc0 := defScope (topS 56)) N T.lf (L := by decide +kernel) (ex_call F.mat rfl four (av_cons (v 0) (av_cons (v 4) av_nil)) ⟨c, p, hc, hp.ty, rfl, .inl ⟨hp.bel _, rfl⟩⟩ rfl)) (by intro _; rfl) rfl)
  have step2 : ∀ {n : Nat} {t p : PV} {s5 : Sl}, n < 90 → p.ty ≠ "?" ∧ isIntV p = false → SS (gNb P w K mg base c0) [.val (clkV c), .val (pr z), .val t, .own (tr n), .val p, s5] (forBody (nthS (defBody (topS 56)) 3)) (.nx [.val (clkV c), .val (pr z), .val t, .own (tr (n + 1)), .val p, s5]) := fun {n t p s5} hn hp =>
    ss_one (add (n := n) (by omega) (ev_noK (sc0 := defScope (topS 56)) N T.lf (L := by decide +kernel) (ex_call F.mt rfl five (av_cons (v 0) (av_cons (v 1) (av_cons (v 4) av_nil))) ⟨c, pr z, p, hc, fine_pr z, hp.1, rfl, .inr (.inl ⟨move_yes hz, hp.2, rfl⟩)⟩ rfl)) (by intro _; rfl) rfl)
  have loop1 : ∀ (its : List PV) (n : Nat) (t : PV) (s4 s5 : Sl), (∀ p ∈ its, NoNum p) → n + 3 * its.length ≤ 60 → ∃ s4', LoopV (gNb P w K mg base c0) (.one 4) (forBody (nthS (defBody (topS 56)) 2)) its [.val (clkV c), .val (pr z), .val t, .own (tr n), s4, s5] (.nx [.val (clkV c), .val (pr z), .val t, .own (tr (n + 3 * its.length)), s4', s5]) := by
    intro its
    induction its with
    | nil => exact fun n t s4 s5 _ _ => ⟨s4, .nil⟩
    | cons p its ih =>
      intro n t s4 s5 hp hn
      rw [List.length_cons] at hn
      obtain ⟨s4', hL⟩ := ih (n + 3) t (.val p) s5 (fun q hq => hp q (List.mem_cons_of_mem _ hq)) (by omega)
      rw [show n + 3 + 3 * its.length = n + 3 * (p :: its).length by rw [List.length_cons]; omega] at hL
      exact ⟨s4', .next trivial (step1 (by omega) (hp p List.mem_cons_self)) hL⟩
  have loop2 : ∀ (its : List PV) (n : Nat) (t : PV) (s4 s5 : Sl), (∀ p ∈ its, p.ty ≠ "?" ∧ isIntV p = false) → n + its.length ≤ 60 → ∃ s4', LoopV (gNb P w K mg base c0) (.one 4) (forBody (nthS (defBody (topS 56)) 3)) its [.val (clkV c), .val (pr z), .val t, .own (tr n), s4, s5] (.nx [.val (clkV c), .val (pr z), .val t, .own (tr (n + its.length)), s4', s5]) := by
    intro its
    induction its with
    | nil => exact fun n t s4 s5 _ _ => ⟨s4, .nil⟩
    | cons p its ih =>
      intro n t s4 s5 hp hn
      rw [List.length_cons] at hn
      obtain ⟨s4', hL⟩ := ih (n + 1) t (.val p) s5 (fun q hq => hp q (List.mem_cons_of_mem _ hq)) (by omega)
      rw [show n + 1 + its.length = n + (p :: its).length by rw [List.length_cons]; omega] at hL
      exact ⟨s4', .next trivial (step2 (by omega) (hp p List.mem_cons_self)) hL⟩
  obtain ⟨s4, hL1⟩ := loop1 odds1 0 (.int (turnsIn c)) .no .no odds1_ok (by decide)
  obtain ⟨s4', hL2⟩ := loop2 odds2 21 (.int (turnsIn c)) s4 .no odds2_ok (by decide)
  refine ⟨_, .rt, ss_cons (sv_set (n := 2) rfl (.inr rfl) (ev_call F.lturns rfl (show (1:Nat) ≤ 7 by decide) (av_cons (v 0) av_nil) ⟨c, hc, rfl, rfl⟩ rfl)) (ss_cons (sv_own (n := 3) rfl (.inl rfl) (nv_lst av_nil (by decide))) ?_)⟩
  refine ss_cons (sv_for rfl (iv_tup (its := odds1) (ev_tup (av_cons (ev_neg ev_int) (av_cons ev_non (av_cons ev_bl (av_cons ev_str (av_cons (ev_const 2 (by decide +kernel)) (av_cons (ev_lst (av_cons ev_int av_nil) (by decide)) (av_cons ev_bl av_nil))))))) (show 7 ≤ 100000 by decide))) (bv_one rfl (.inr rfl)) hL1) ?_
  refine ss_cons (sv_for rfl (iv_tup (its := odds2) (ev_tup (av_cons ev_non (av_cons ev_bl (av_cons ev_str (av_cons (ev_const 2 (by decide +kernel)) (av_cons (ev_lst (av_cons ev_int av_nil) (by decide)) (av_cons ev_bl av_nil)))))) (show 6 ≤ 100000 by decide))) (bv_one rfl (.inr rfl)) hL2) ?_
  refine ss_cons (add (n := 27) (by decide) (ev_noK (sc0 := defScope (topS 56)) N T.lf (L := by decide +kernel) (ex_call F.tk rfl five (av_cons (v 0) (av_cons (v 1) (av_cons (ev_ixT (n := 0) (v 0) ev_int rfl rfl) av_nil))) ⟨c, pr z, .int c.1, hc, fine_pr z, (fine_int _).1, rfl, .inr (.inl ⟨move_yes hz, by simp [isBelV], rfl⟩)⟩ rfl)) (by intro _; rfl) rfl) ?_
  refine ss_cons (add (n := 28) (by decide) (ev_noK (sc0 := defScope (topS 56)) N T.lf (L := by decide +kernel) (ex_call F.fat rfl four (av_cons (v 0) (av_cons (v 2) av_nil)) ⟨c, .int (turnsIn c), hc, (fine_int _).1, rfl, .inl ⟨by simp [isBelV], rfl⟩⟩ rfl)) (by intro _; rfl) rfl) ?_
  refine ss_cons (add (n := 29) (by decide) (ev_noK (sc0 := defScope (topS 56)) N T.lf (L := by decide +kernel) (ex_call F.mat rfl four (av_cons (v 0) (av_cons (EV.to (q := .int (sizeIn c)) (ev_mul (i := turnsIn c) (j := c.1) (v 2) (ev_ixT (n := 0) (v 0) ev_int rfl rfl) (.inr (by omega))) (by rw [sizeIn, Int.mul_comm])) av_nil)) ⟨c, .int (sizeIn c), hc, (fine_int _).1, rfl, .inl ⟨by simp [isBelV], rfl⟩⟩ rfl)) (by intro _; rfl) rfl) ?_
  refine ss_freeze (n := 3) rfl (ss_one (sv_ret (EV.to (cv_eqi (ev_len (qv_l (lv_nv (nv_lcM [("_law_row", 5)] (.one 5) PV.bl (List.replicate 30 true) (fun x => !x) PV.bl rfl ?_ (by decide) ?_ ?_ ?_ fun x hx => ⟨trivial, tvs_one (tv_not (tv_val (v 5))), fun _ => v 5⟩))) b.len) ev_int).ev ?_)))
  · exact iv_list (v 3)
  · exact blkOk_by (N := nNb) (sc := defScope (topS 56)) (by decide +kernel)
  · exact bv_one rfl (.inl rfl)
  · decide
  · rfl
end
end K01
namespace K01
open PySem PySem.Spec PyProof.Rows L2 VL
variable [Tb]
section
variable {P : Program} {w : World} {K : PySem.W.Frag} {mg : Str → Option Value} {base : Heap} {C : Addr}
/-! ### by names -/
structure Ks (P : Program) (w : World) (K : PySem.W.Frag) (mg : Str → Option Value) (base : Heap) (C : Addr) : Prop where
  fat : FnVK P w K mg base 4 "factor_at" nCT ["turn", "clock"] true (R_b C "turn" turnsIn fun c i => .int (fac c i.toNat))
  thn : FnVK P w K mg base 5 "then" nCOO ["other", "one", "clock"] true (R_mm C "one" "other" fun c y x => pr (joinM c y x))
  bof : FnVK P w K mg base 5 "back_of" nCM ["move", "clock"] true (R_m C "move" fun c y => pr (backM c y))
  mt : FnVK P w K mg base 5 "moved_times" pMT ["many", "move", "clock"] true (R_mt C)
  tb : FnVK P w K mg base 5 "turned_by" pTn ["by", "move", "clock"] true (R_mm C "move" "by" fun c y x => pr (turnedM c y x))
  tk : FnVK P w K mg base 5 "takes" nBA ["beat", "move", "clock"] true (R_tk C)
  nof : FnVK P w K mg base 5 "number_of" nCM ["move", "clock"] true (R_m C "move" fun c y => .int (y.2 * c.1 + y.1))
  mat : FnVK P w K mg base 4 "move_at" nMA ["number", "clock"] true (R_b C "number" sizeIn fun c i => pr (i % c.1, i / c.1))
  alm : FnVK P w K mg base 4 "all_moves" ["clock"] ["clock"] false R_em
abbrev nNm : List Str := ["_law_clock_here", "_law_one_here", "_law_other", "_law_many_here", "_law_told", "_law_due"]
abbrev pNm : List Str := ["_law_clock_here", "_law_one_here", "_law_other", "_law_many_here"]
theorem scNm : FnScope nNm pNm (defScope (topS 57)) := ⟨rfl, rfl, rfl, by decide +kernel, rfl, by decide +kernel, by decide +kernel⟩
abbrev R_nm : Rel := fun args r => ∃ (c : Clk) (z y : Int × Int) (i : Int), OKc c ∧ Mv c z ∧ Mv c y ∧ args = [clkV c, pr z, pr y, .int i] ∧ r = .ok (.bl true)
def nineV (c : Clk) (z y : Int × Int) (i : Int) : List PV := [pr (joinM c z y), pr (backM c z), pr (timesM c z i), pr (turnedM c z y), .int (beatA c z 0), .int (z.2 * c.1 + z.1), pr (0, 0), .int (fac c z.2.toNat), .int (sizeIn c)]
theorem fit_nine {c : Clk} {z y : Int × Int} {i : Int} (hc : OKc c) (hz : Mv c z) (hy : Mv c y) : Fit (.lst (nineV c z y i)) := by
  have hb := hc.b1; have hb2 := hc.b2; have hs := size_b hc
  obtain ⟨n1, n2, n3⟩ := number_back hc hz
  have h1 := mv_b hc (join_mv hc z y)
  have h2 := mv_b hc (back_mv hc z)
  have h3 := mv_b hc (walk_mv hc z (i % sizeIn c).toNat)
  have h3' : (-1000 ≤ (timesM c z i).1 ∧ (timesM c z i).1 ≤ 100000) ∧ (-1000 ≤ (timesM c z i).2 ∧ (timesM c z i).2 ≤ 100000) := h3
  have h4 := mv_b hc (turned_mv (w := y) hc hz)
  have h5 := beat_b hc z 0
  have h6 := fac_b hc z.2.toNat
  have i1 : (beatA c z 0).natAbs < 10 ^ 200 := small_int (by omega) (by omega)
  have i2 : (z.2 * c.1 + z.1).natAbs < 10 ^ 200 := small_int (by omega) (by omega)
  have i3 : (fac c z.2.toNat).natAbs < 10 ^ 200 := small_int (by omega) (by omega)
  have i4 : (sizeIn c).natAbs < 10 ^ 200 := small_int (by omega) (by omega)
  have fi : ∀ (i : Int) (ps : List PV), i.natAbs < 10 ^ 200 → PV.fits (.int i :: ps) = PV.fits ps := fun i ps h => by
    simp only [PV.fits, decide_eq_true h, Bool.true_and]
  refine ⟨?_, by simp [nineV, pr, PV.bulk], by simp [nineV, pr, PV.deep]⟩
  simp only [nineV, PV.fits, Bool.and_true]
  show PV.fits (pr (joinM c z y) :: _) = true
  rw [fits_pr h1.1 h1.2, fits_pr h2.1 h2.2, fits_pr h3'.1 h3'.2, fits_pr h4.1 h4.2, fi _ _ i1, fi _ _ i2, fits_pr (by decide) (by decide), fi _ _ i3, fi _ _ i4]
  simp only [PV.fits]
theorem fn_names (A : At K mg "_law_names" 57 pNm) (b : Bt mg) (F : Fs P w K mg base C) (D : Ks P w K mg base C) : FnV P w K mg base 6 "_law_names" pNm R_nm := by
  refine fn_at A scNm fun args r h hl => ?_
  obtain ⟨c, z, y, i, hc, hz, hy, rfl, rfl⟩ := h
  have hb := hc.b1; have hb2 := hc.b2; have hs := size_b hc; have ht := hc.t1
  have five : (5 : Nat) ≤ 5 := Nat.le_refl 5
  have four : (4 : Nat) ≤ 5 := by decide
  have z0 : ((0 : Int) % c.1, (0 : Int) / c.1) = ((0 : Int), (0 : Int)) := by rw [Int.zero_emod, Int.zero_ediv]
  have ms : (((movesC c).map pr).length : Int) = sizeIn c := by rw [List.length_map]; exact moves_size hc
  refine ⟨_, .rt, ss_cons (sv_set (n := 4) (p := .lst (nineV c z y i)) rfl (.inl rfl) (ev_lst ?_ (show 9 ≤ 100000 by decide))) (ss_cons (sv_set (n := 5) (p := .lst (nineV c z y i)) rfl (.inl rfl) (ev_lst ?_ (show 9 ≤ 100000 by decide))) (ss_one (sv_ret (ev_same F.same (v 4) (v 5) (fit_nine hc hz hy)))))⟩
  · refine av_cons (ev_callK D.thn rfl five (kv_cons (v 2) (kv_cons (v 1) (kv_cons (v 0) kv_nil))) (rmm hc hz hy) rfl rfl) ?_
    refine av_cons (ev_callK D.bof rfl five (kv_cons (v 1) (kv_cons (v 0) kv_nil)) (rm hc hz) rfl rfl) ?_
    refine av_cons (ev_callK D.mt rfl five (kv_cons (v 3) (kv_cons (v 1) (kv_cons (v 0) kv_nil))) (rmt hc hz) rfl rfl) ?_
    refine av_cons (ev_callK D.tb rfl five (kv_cons (v 2) (kv_cons (v 1) (kv_cons (v 0) kv_nil))) (rmm hc hz hy) rfl rfl) ?_
    refine av_cons (ev_callK D.tk rfl five (kv_cons ev_int (kv_cons (v 1) (kv_cons (v 0) kv_nil))) (rtk (i := 0) hc hz (by omega) (by omega)) rfl rfl) ?_
    refine av_cons (ev_callK D.nof rfl five (kv_cons (v 1) (kv_cons (v 0) kv_nil)) (rm hc hz) rfl rfl) ?_
    refine av_cons (EV.to (ev_callK D.mat rfl four (kv_cons ev_int (kv_cons (v 0) kv_nil)) (rb (i := 0) hc (by omega) (by omega)) rfl rfl) (congrArg pr z0)) ?_
    refine av_cons (ev_callK D.fat rfl four (kv_cons (ev_ixT (n := 1) (v 1) ev_int rfl rfl) (kv_cons (v 0) kv_nil)) (rb (i := z.2) hc hz.t1 hz.t2) rfl rfl) ?_
    exact av_cons (EV.to (ev_len (qv_t (ev_callK D.alm rfl four (kv_cons (v 0) kv_nil) ⟨c, hc, rfl, rfl⟩ rfl rfl)) b.len) (congrArg PV.int ms)) av_nil
  · refine av_cons (ev_call F.thn rfl five (av_cons (v 0) (av_cons (v 1) (av_cons (v 2) av_nil))) (rmm hc hz hy) rfl) ?_
    refine av_cons (ev_call F.bof rfl five (av_cons (v 0) (av_cons (v 1) av_nil)) (rm hc hz) rfl) ?_
    refine av_cons (ev_call F.mt rfl five (av_cons (v 0) (av_cons (v 1) (av_cons (v 3) av_nil))) (rmt hc hz) rfl) ?_
    refine av_cons (ev_call F.tb rfl five (av_cons (v 0) (av_cons (v 1) (av_cons (v 2) av_nil))) (rmm hc hz hy) rfl) ?_
    refine av_cons (ev_call F.tk rfl five (av_cons (v 0) (av_cons (v 1) (av_cons ev_int av_nil))) (rtk (i := 0) hc hz (by omega) (by omega)) rfl) ?_
    refine av_cons (ev_call F.nof rfl five (av_cons (v 0) (av_cons (v 1) av_nil)) (rm hc hz) rfl) ?_
    refine av_cons (ev_const 2 (by decide +kernel)) ?_
    refine av_cons (ev_call F.fat rfl four (av_cons (v 0) (av_cons (ev_ixT (n := 1) (v 1) ev_int rfl rfl) av_nil)) (rb (i := z.2) hc hz.t1 hz.t2) rfl) ?_
    exact av_cons (EV.to (ev_len (qv_t (ev_call F.alm rfl four (av_cons (v 0) av_nil) ⟨c, hc, rfl, rfl⟩ rfl)) b.len) (congrArg PV.int ms)) av_nil
end
end K01
namespace K01
open PySem PySem.Spec PyProof.Rows L2 VL
variable [Tb]
section
variable {P : Program} {w : World} {K : PySem.W.Frag} {mg : Str → Option Value} {base : Heap} {C : Addr}
/-! ### the law -/
abbrev nLaw : List Str := ["_law_script", "_law_feed_here", "_law_clock_here", "_law_turns_here", "_law_one_here", "_law_other", "_law_third", "_law_many_here", "_law_seven", "_law_odd_here", "_law_k"]
theorem scLaw : FnScope nLaw ["_law_script"] (defScope (topS 58)) := ⟨rfl, rfl, rfl, by decide +kernel, rfl, by decide +kernel, by decide +kernel⟩
abbrev R_law : Rel := fun args r => ∃ ns : List Int, ns.length ≤ 1000 ∧ args = [.lst (ns.map PV.int)] ∧ r = .ok (.bl true)
abbrev gLaw (P : Program) (w : World) (K : PySem.W.Frag) (mg : Str → Option Value) (base : Heap) : Gam := gam P w K mg base nLaw (topS 58) 8 true
def c7 : Clk := (7, [(3, 2)])
theorem ok7 : OKc c7 := okB_ok (by decide +kernel)
theorem mv_by {c : Clk} {z : Int × Int} (h : (decide (0 ≤ z.1) && decide (z.1 < c.1) && decide (0 ≤ z.2) && decide (z.2 < turnsIn c)) = true) : Mv c z := by
  simp only [Bool.and_eq_true, decide_eq_true_eq] at h
  exact ⟨h.1.1.1, h.1.1.2, h.1.2, h.2⟩
structure Ls (P : Program) (w : World) (K : PySem.W.Frag) (mg : Str → Option Value) (base : Heap) (C : Addr) : Prop where
  F : Fs P w K mg base C
  feed : FnVN P w K mg base 1 "_law_feed" ["_law_script"] R_feed
  pick : FnVM P w K mg base 1 "_law_pick" pPick R_pick
  clock : FnVM P w K mg base 2 "_law_clock" ["_law_feed_here"] R_clock
  move : FnVM P w K mg base 2 "_law_move" nLM R_lmove
  many : FnVM P w K mg base 2 "_law_many" pLMy R_lmany
  pairs : FnV P w K mg base 6 "_law_pairs" pPs R_ps
  one : FnV P w K mg base 6 "_law_one" pOn R_on
  all : FnV P w K mg base 5 "_law_all" ["_law_clock_here"] R_al
  odd : FnV P w K mg base 2 "_law_odd" ["_law_clock_here"] R_odd
  refused : FnV P w K mg base 8 "_law_refused" pRf R_rf
  numbers : FnV P w K mg base 8 "_law_numbers" pNb R_nb
  names : FnV P w K mg base 6 "_law_names" pNm R_nm
theorem fn_law (A : At K mg "law" 58 ["_law_script"]) (b : Bt mg) (D : Ls P w K mg base C) : FnV P w K mg base 9 "law" ["_law_script"] R_law := by
  refine fn_at A scLaw fun args r h hl => ?_
  obtain ⟨ns, hn, rfl, rfl⟩ := h
  have F := D.F
  generalize hf0 : feed0 ns = f0
  generalize hcf : clockF f0 = cf
  obtain ⟨c, f1⟩ := cf
  have hc : OKc c := by have := clock_ok f0; rw [hcf] at this; exact this
  generalize hm1 : moveF f1 c = m1
  obtain ⟨z, f2⟩ := m1
  have hz : Mv c z := by have := move_mv (f := f1) hc; rw [hm1] at this; exact this
  generalize hm2 : moveF f2 c = m2
  obtain ⟨y, f3⟩ := m2
  have hy : Mv c y := by have := move_mv (f := f2) hc; rw [hm2] at this; exact this
  generalize hm3 : moveF f3 c = m3
  obtain ⟨x, f4⟩ := m3
  have hx : Mv c x := by have := move_mv (f := f3) hc; rw [hm3] at this; exact this
  generalize hmn : manyF f4 (sizeIn c) = mn
  obtain ⟨i, f5⟩ := mn
  have hb := hc.b1; have hb2 := hc.b2; have ht := hc.t1; have ht2 := hc.t2; have hs := size_b hc
  have e6 : (6 : Nat) ≤ 8 := by decide
  have e2 : (2 : Nat) ≤ 8 := by decide
  have len : ((oddsV c).length : Int) = 14 := rfl
  have loop : ∀ (n : Nat) (j : Int) (f : Feed) (s0 s3 s4 s5 s7 s8 s10 : Sl), 0 ≤ j → j + n = 14 → ∃ f' s10', LoopV (gLaw P w K mg base) (.one 10) (forBody (nthS (defBody (topS 58)) 12)) ((span j 14).map PV.int) [s0, .own (fdV f), .val (clkV c), s3, s4, s5, .val (pr x), s7, s8, .val (.lst (oddsV c)), s10] (.nx [s0, .own (fdV f'), .val (clkV c), s3, s4, s5, .val (pr x), s7, s8, .val (.lst (oddsV c)), s10']) := by
    intro n
    induction n with
    | zero =>
      intro j f s0 s3 s4 s5 s7 s8 s10 h0 hj
      rw [span_nil (by omega)]
      exact ⟨f, s10, .nil⟩
    | succ n ih =>
      intro j f s0 s3 s4 s5 s7 s8 s10 h0 hj
      rw [span_cons (by omega)]
      have hlt : j.toNat < (oddsV c).length := by show j.toNat < 14; omega
      have hlt2 : (13 - j).toNat < (oddsV c).length := by show (13 - j).toNat < 14; omega
      have g1 := List.getElem?_eq_getElem hlt
      have g2 := List.getElem?_eq_getElem hlt2
      have o1 := odds_ok c _ (List.getElem_mem hlt)
      have o2 := odds_ok c _ (List.getElem_mem hlt2)
      have body : ∀ {f : Feed} {st : Stmt}, st = nthS (match nthS (forBody (nthS (defBody (topS 58)) 12)) 0 with | .If _ b _ _ => b | _ => []) 0 → SS (gLaw P w K mg base) [s0, .own (fdV f), .val (clkV c), s3, s4, s5, .val (pr x), s7, s8, .val (.lst (oddsV c)), .val (.int j)] [st] (.nx [s0, .own (fdV f), .val (clkV c), s3, s4, s5, .val (pr x), s7, s8, .val (.lst (oddsV c)), .val (.int j)]) := fun {f st} e => by
        subst e
        exact ss_one (sv_if_f (tv_not_t (tv_val (ev_call D.refused rfl (Nat.le_refl _) (av_cons (v 2) (av_cons (v 6) (av_cons (ev_ixL (n := j.toNat) (lv_val (v 9)) (v 10) (by omega) g1) (av_cons (ev_ixL (n := (13 - j).toNat) (lv_val (v 9)) (ev_sub (ev_sub (ev_len (qv_l (lv_val (v 9))) b.len) ev_int) (v 10)) (by rw [len]; omega) g2) av_nil)))) ⟨c, x, _, _, hc, hx, o1, o2, rfl, rfl⟩ rfl))) ss_nil)
      by_cases h4 : j < 4
      · obtain ⟨f', s', hL⟩ := ih (j + 1) f s0 s3 s4 s5 s7 s8 (.val (.int j)) (by omega) (by omega)
        exact ⟨f', s', .next trivial (ss_one (sv_if_t (tv_w (wv_or_t (TV.to (cv_lt (v 10) ev_int).tv (decide_eq_true h4)))) (body rfl))) hL⟩
      · have t0 : TV (gLaw P w K mg base) [s0, .own (fdV f), .val (clkV c), s3, s4, s5, .val (pr x), s7, s8, .val (.lst (oddsV c)), .val (.int j)] (match nthS (forBody (nthS (defBody (topS 58)) 12)) 0 with | .If (.BoolOp _ (e :: _) _) _ _ _ => e | _ => .Constant .none 0 ⟨0, 0, 0, 0⟩) false := TV.to (cv_lt (v 10) ev_int).tv (decide_eq_false h4)
        by_cases hp : (pickF f 3).1 = 0
        · obtain ⟨f', s', hL⟩ := ih (j + 1) (pickF f 3).2 s0 s3 s4 s5 s7 s8 (.val (.int j)) (by omega) (by omega)
          exact ⟨f', s', .next trivial (ss_one (sv_ifM_t (tm_w (wm_or_f t0 (wm_or1 (TM.to (tm_eqi (em_pick (m := 3) D.pick ev_int (by decide) (by decide) 1) ev_int) (decide_eq_true hp))))) (body rfl))) hL⟩
        · obtain ⟨f', s', hL⟩ := ih (j + 1) (pickF f 3).2 s0 s3 s4 s5 s7 s8 (.val (.int j)) (by omega) (by omega)
          exact ⟨f', s', .next trivial (ss_one (sv_ifM_f (tm_w (wm_or_f t0 (wm_or1 (TM.to (tm_eqi (em_pick (m := 3) D.pick ev_int (by decide) (by decide) 1) ev_int) (decide_eq_false hp))))) ss_nil)) hL⟩
  have r1 : moveF f1 c = (z, f2) := hm1
  refine ⟨_, .rt, ss_cons (SV.to (sv_own (n := 1) rfl (.inl rfl) (nv_call D.feed rfl (show (1:Nat) ≤ 8 by decide) (av_cons (v 0) av_nil) ⟨ns, hn, rfl, rfl⟩ rfl)) (by rw [hf0])) ?_⟩
  refine ss_cons (SV.to (sv_setM (n := 2) (p := clkV c) (ρ1 := [.val (.lst (ns.map PV.int)), .own (fdV f1), .no, .no, .no, .no, .no, .no, .no, .no, .no]) rfl (.inl rfl) (em_call (n := 1) (xs' := fdV f1) D.clock rfl e2 rfl (.inl rfl) rfl av_nil ⟨f0, rfl, rfl, by rw [hcf], by rw [hcf]⟩ rfl)) rfl) ?_
  refine ss_cons (sv_set (n := 3) rfl (.inl rfl) (ev_call F.lturns rfl (show (1:Nat) ≤ 8 by decide) (av_cons (v 2) av_nil) ⟨c, hc, rfl, rfl⟩ rfl)) ?_
  refine ss_cons (SV.to (sv_par3M (n := 4) (m := 5) (l := 6) (p := pr z) (q := pr y) (r := pr x) (ρ1 := [.val (.lst (ns.map PV.int)), .own (fdV f4), .val (clkV c), .val (.int (turnsIn c)), .no, .no, .no, .no, .no, .no, .no]) rfl rfl rfl rfl (by decide) (by decide) (by decide) rfl rfl rfl (am_cons (em_call (n := 1) (xs' := fdV f2) D.move rfl e2 rfl (.inl rfl) rfl (av_cons (v 2) av_nil) ⟨f1, c, hc, rfl, rfl, by rw [hm1], by rw [hm1]⟩ rfl) (am_cons (em_call (n := 1) (xs' := fdV f3) D.move rfl e2 rfl (.inl rfl) rfl (av_cons (v 2) av_nil) ⟨f2, c, hc, rfl, rfl, by rw [hm2], by rw [hm2]⟩ rfl) (am_cons (em_call (n := 1) (xs' := fdV f4) D.move rfl e2 rfl (.inl rfl) rfl (av_cons (v 2) av_nil) ⟨f3, c, hc, rfl, rfl, by rw [hm3], by rw [hm3]⟩ rfl) am_nil))) ?_) rfl) ?_
  · intro env he
    cases env
    dsimp only at he
    subst he
    rfl
  refine ss_cons (SV.to (sv_setM (n := 7) (p := .int i) (ρ1 := [.val (.lst (ns.map PV.int)), .own (fdV f5), .val (clkV c), .val (.int (turnsIn c)), .val (pr z), .val (pr y), .val (pr x), .no, .no, .no, .no]) rfl (.inl rfl) (em_call (n := 1) (xs' := fdV f5) D.many rfl e2 rfl (.inl rfl) rfl (av_cons (EV.to (q := .int (sizeIn c)) (ev_mul (i := turnsIn c) (j := c.1) (v 3) (ev_ixT (n := 0) (v 2) ev_int rfl rfl) (.inr (by omega))) (by rw [sizeIn, Int.mul_comm])) av_nil) ⟨f4, sizeIn c, by omega, hs.2, rfl, rfl, by rw [hmn], by rw [hmn]⟩ rfl)) rfl) ?_
  refine ss_cons (sv_if_f (tv_w (wv_or_f (tv_not_t (tv_val (ev_call D.pairs rfl e6 (av_cons (v 2) (av_cons (v 4) (av_cons (v 5) av_nil))) ⟨c, z, y, hc, hz, hy, rfl, rfl⟩ rfl))) (wv_or1 (tv_not_t (tv_val (ev_call D.pairs rfl e6 (av_cons (v 2) (av_cons (v 6) (av_cons (v 4) av_nil))) ⟨c, x, z, hc, hx, hz, rfl, rfl⟩ rfl)))))) ss_nil) ?_
  refine ss_cons (sv_if_f (tv_w (wv_or_f (tv_not_t (tv_val (ev_call D.one rfl e6 (av_cons (v 2) (av_cons (v 4) (av_cons (v 5) (av_cons (v 7) av_nil)))) ⟨c, z, y, i, hc, hz, hy, rfl, rfl⟩ rfl))) (wv_or1 (tv_not_t (tv_val (ev_call D.one rfl e6 (av_cons (v 2) (av_cons (v 5) (av_cons (v 6) (av_cons (ev_neg (v 7)) av_nil)))) ⟨c, y, x, -i, hc, hy, hx, rfl, rfl⟩ rfl)))))) ss_nil) ?_
  refine ss_cons (sv_if_f (tv_w (wv_or_f (tv_not_t (tv_val (ev_call D.all rfl (show (5:Nat) ≤ 8 by decide) (av_cons (v 2) av_nil) ⟨c, hc, rfl, rfl⟩ rfl))) (wv_or1 (tv_not_t (tv_val (ev_call D.names rfl e6 (av_cons (v 2) (av_cons (v 4) (av_cons (v 6) (av_cons (v 7) av_nil)))) ⟨c, z, x, i, hc, hz, hx, rfl, rfl⟩ rfl)))))) ss_nil) ?_
  have m31 : Mv c7 (3, 1) := mv_by (by decide +kernel)
  have m22 : Mv c7 (2, 2) := mv_by (by decide +kernel)
  have m11 : Mv c7 (1, 1) := mv_by (by decide +kernel)
  have j7 : joinM c7 (3, 1) (2, 2) = (0, 0) := by decide +kernel
  have t7 : timesM c7 (1, 1) (-4) = (3, 2) := by decide +kernel
  have b7 : backM c7 (1, 1) = (3, 2) := by decide +kernel
  have e5 : (5 : Nat) ≤ 8 := by decide
  refine ss_cons (sv_if_f (tv_not_t (tv_val (ev_same F.same (p := pr (0, 0)) (EV.to (ev_call F.thn rfl e5 (av_cons (ev_const (p := clkV c7) 5 (by decide +kernel)) (av_cons (ev_const (p := pr (3, 1)) 2 (by decide +kernel)) (av_cons (ev_const (p := pr (2, 2)) 2 (by decide +kernel)) av_nil))) (rmm ok7 m31 m22) rfl) (congrArg pr j7)) (ev_const 2 (by decide +kernel)) (fit_pr (by decide) (by decide))))) ss_nil) ?_
  refine ss_cons (sv_set (n := 8) rfl (.inl rfl) (ev_const (p := clkV c7) 5 (by decide +kernel))) ?_
  refine ss_cons (sv_if_f (tv_not_t (tv_val (ev_same F.same (p := .tup [pr (3, 2), pr (3, 2)]) (ev_tup (av_cons (EV.to (ev_call F.mt rfl e5 (av_cons (v 8) (av_cons (ev_const (p := pr (1, 1)) 2 (by decide +kernel)) (av_cons (ev_neg ev_int) av_nil))) (rmt (i := -4) ok7 m11) rfl) (congrArg pr t7)) (av_cons (EV.to (ev_call F.bof rfl e5 (av_cons (v 8) (av_cons (ev_const (p := pr (1, 1)) 2 (by decide +kernel)) av_nil)) (rm ok7 m11) rfl) (congrArg pr b7)) av_nil)) (show 2 ≤ 100000 by decide)) (ev_const 3 (by decide +kernel)) ⟨by simp [PV.fits, pr], by simp [PV.bulk, pr], by simp [PV.deep, pr]⟩))) ss_nil) ?_
  refine ss_cons (sv_set (n := 9) rfl (.inl rfl) (ev_call D.odd rfl e2 (av_cons (v 2) av_nil) ⟨c, hc, rfl, rfl⟩ rfl)) ?_
  obtain ⟨f6, s10, hL⟩ := loop 14 0 f5 (.val (.lst (ns.map PV.int))) (.val (.int (turnsIn c))) (.val (pr z)) (.val (pr y)) (.val (.int i)) (.val (clkV c7)) .no (Int.le_refl 0) rfl
  refine ss_cons (sv_for rfl (IV.to (iv_rng1 (ev_len (qv_l (lv_val (v 9))) b.len) (by rw [len]; decide) (by rw [len]; decide) b.range) (by rw [len]; exact rng_span1 _)) (bv_one rfl (.inl rfl)) hL) ?_
  exact ss_one (sv_ret (ev_and_t (ev_call D.numbers rfl (Nat.le_refl _) (av_cons (v 2) (av_cons (v 4) av_nil)) ⟨c, z, hc, hz, rfl, rfl⟩ rfl) (ev_one (ev_call D.pairs rfl e6 (av_cons (v 2) (av_cons (v 4) (av_cons (v 5) av_nil))) ⟨c, z, y, hc, hz, hy, rfl, rfl⟩ rfl))))
end
end K01
namespace K01
open PySem PySem.Spec PyProof.Rows L2 VL
/-! ### the error's own making -/
abbrev sInit : Stmt := inClass (topS 22) 0
theorem scInit : FnScope ["self", "word", "at"] ["self", "word", "at"] (defScope sInit) := ⟨rfl, rfl, rfl, by decide +kernel, rfl, by decide +kernel, by decide +kernel⟩
section
variable [Tb]
variable {P : Program} {w : World} {K : PySem.W.Frag} {mg : Str → Option Value} {base : Heap} {C D : Addr}
theorem ok_init {f : Addr} {fd : FuncData} (F : Fun K "__init__" "NotUsable.__init__" sInit f fd) (T : OexC K C) (fw : PySem.W.findIn K (.ref C) "word" = some none) (fa : PySem.W.findIn K (.ref C) "at" = some none) :
    FnOk P w K mg base CX0 1 f fd ["self", "word", "at"] (spInit C "word" "at") := by
  refine F.ok scInit (fun vs H Q E h => ?_) (fun cdv A outer s H vs Q E hr h => ⟨_, pss_cons (ps_ost (pv 0) (pv 1) rfl) (pss_one (ps_ost (pv 0) (pv 2) rfl)), ?_⟩)
  · obtain ⟨a, x, y, rfl, _⟩ := h
    rfl
  · obtain ⟨a, x, y, rfl, ha, q⟩ := h
    refine ⟨x, rfl, .ref a, rfl, a, C, rfl, T, fw, .inl ⟨ha, fun dx n ne => ?_⟩⟩
    refine ⟨y, rfl, .ref a, rfl, a, C, rfl, T, fa, .inr ⟨dx, [("word", x)], upd_same, (upd_ne ne).trans upd_same, (show 1 ≤ 900 by decide), ?_⟩⟩
    refine q dx _ (fun b o hb ho => ?_) n ((upd_ne (fun z => ne z.symm)).trans upd_same) upd_same
    have hbd : b ≠ dx := fun z => by rw [z, n] at ho; cases ho
    exact (upd_ne hbd).trans ((upd_ne hb).trans ((upd_ne hbd).trans ho))
end
/-! ### what the top has written -/
section
variable {P : Program} {w : World} {K : PySem.W.Frag} {mg : Str → Option Value} {base : Heap} {C D : Addr}
theorem at_mk {h : Heap} {x : Str} {i : Nat} {ps : List Str} (X : K.In h) (G : h.Ns mainGlobals mg) {f : Addr} {od an : Option Addr} {sl : Array (Option Value)} {oc kV dc pm cd ct : Value}
    (a : PySem.W.nsIn K mainGlobals x = some (some (.ref f))) (l : K.lookup f = some ⟨oc, od, .func (PySem.W.fnOf x x (defArgs (topS i)) (defBody (topS i)) (defScope (topS i)) .none kV dc pm an cd ct), sl⟩) (c : PySem.W.codeIn K cd x = true) (k : PySem.W.keepIn K (.ref f) = true)
    (hb : ∀ (kV doc pm : Value) (an : Option Addr) (cdv ct : Value) (us : List Value), us.length = ps.length → bindArgs (PySem.W.fnOf x x (defArgs (topS i)) (defBody (topS i)) (defScope (topS i)) .none kV doc pm an cdv ct) ⟨us, []⟩ = pure (ps.zip us)) : At K mg x i ps :=
  ⟨f, _, fun_mk l c k, PySem.W.mg_of X G a, (fun_mk l c k).binds hb⟩
theorem atK_mk {h : Heap} {x : Str} {i : Nat} {ps ks : List Str} {rev : Bool} (X : K.In h) (G : h.Ns mainGlobals mg) {f : Addr} {od an : Option Addr} {sl : Array (Option Value)} {oc kV dc pm cd ct : Value}
    (a : PySem.W.nsIn K mainGlobals x = some (some (.ref f))) (l : K.lookup f = some ⟨oc, od, .func (PySem.W.fnOf x x (defArgs (topS i)) (defBody (topS i)) (defScope (topS i)) .none kV dc pm an cd ct), sl⟩) (c : PySem.W.codeIn K cd x = true) (k : PySem.W.keepIn K (.ref f) = true)
    (hb : ∀ (kV doc pm : Value) (an : Option Addr) (cdv ct : Value) (us : List Value), us.length = ps.length → bindArgs (PySem.W.fnOf x x (defArgs (topS i)) (defBody (topS i)) (defScope (topS i)) .none kV doc pm an cdv ct) ⟨us, []⟩ = pure (ps.zip us))
    (hk : ∀ (kV doc pm : Value) (an : Option Addr) (cdv ct : Value) (ws : List Value), ws.length = ps.length → bindArgs (PySem.W.fnOf x x (defArgs (topS i)) (defBody (topS i)) (defScope (topS i)) .none kV doc pm an cdv ct) ⟨[], ks.zip ws⟩ = pure (ps.zip (if rev then ws.reverse else ws))) : At K mg x i ps ∧ AtK K mg x i ps ks rev :=
  ⟨at_mk X G a l c k hb, ⟨f, _, fun_mk l c k, PySem.W.mg_of X G a, fun s ws _ h => .of_eq (hk _ _ _ _ _ _ ws h)⟩⟩
theorem atL_mk {h : Heap} {x : Str} {i : Nat} {ps : List Str} {c0 : Addr} (X : K.In h) (G : h.Ns mainGlobals mg) {f : Addr} {od an : Option Addr} {sl : Array (Option Value)} {oc kV dc pm ct : Value}
    (a : PySem.W.nsIn K mainGlobals x = some (some (.ref f))) (l : K.lookup f = some ⟨oc, od, .func (PySem.W.fnOf x x (defArgs (topS i)) (defBody (topS i)) (defScope (topS i)) .none kV dc pm an (.ref c0) ct), sl⟩) (c : PySem.W.codeIn K (.ref c0) x = true) (k : PySem.W.keepIn K (.ref f) = true)
    (hb : ∀ (kV doc pm : Value) (an : Option Addr) (cdv ct : Value) (us : List Value), us.length = ps.length → bindArgs (PySem.W.fnOf x x (defArgs (topS i)) (defBody (topS i)) (defScope (topS i)) .none kV doc pm an cdv ct) ⟨us, []⟩ = pure (ps.zip us)) : AtL K mg x i ps c0 :=
  ⟨f, _, fun_mk l c k, PySem.W.mg_of X G a, (fun_mk l c k).binds hb, rfl⟩
/-- the error's class -/
structure ErrA (K : PySem.W.Frag) (mg : Str → Option Value) (C : Addr) : Prop where
  E : ErrK K mg C
  T : OexC K C
  I : ∃ fI fdI, PySem.W.findIn K (.ref C) "__init__" = some (some (.ref fI)) ∧ PySem.W.typeIn K (.ref fI) = some (.type "function") ∧ Fun K "__init__" "NotUsable.__init__" sInit fI fdI
/-- all defs -/
structure Defs (K : PySem.W.Frag) (mg : Str → Option Value) (c1 c2 : Addr) : Prop where
  A1 : At K mg "multiplied" 1 ["factors"]
  A2 : At K mg "power_modulo" 2 pPow
  A4 : At K mg "turns_in" 4 ["clock"]
  A5 : At K mg "size_in" 5 ["clock"]
  A6 : At K mg "factor_in" 6 ["clock", "turn"]
  A7 : At K mg "every_move" 7 ["clock"]
  A8 : At K mg "number_in" 8 nCM
  A9 : At K mg "beat_after" 9 nBA
  A10 : At K mg "joined" 10 nCOO
  A11 : At K mg "back_in" 11 nCM
  A12 : At K mg "turned_in" 12 pTn
  A14 : At K mg "is_integer" 14 nThing
  A15 : At K mg "is_number" 15 nThing
  A16 : At K mg "is_below" 16 nBel
  A17 : At K mg "is_pair" 17 nThing
  A18 : At K mg "is_move" 18 nIM
  A24 : At K mg "need" 24 nNeed
  B27 : At K mg "factor_at" 27 nCT ∧ AtK K mg "factor_at" 27 nCT ["turn", "clock"] true
  B28 : At K mg "then" 28 nCOO ∧ AtK K mg "then" 28 nCOO ["other", "one", "clock"] true
  B29 : At K mg "back_of" 29 nCM ∧ AtK K mg "back_of" 29 nCM ["move", "clock"] true
  B30 : At K mg "moved_times" 30 pMT ∧ AtK K mg "moved_times" 30 pMT ["many", "move", "clock"] true
  B31 : At K mg "turned_by" 31 pTn ∧ AtK K mg "turned_by" 31 pTn ["by", "move", "clock"] true
  B32 : At K mg "takes" 32 nBA ∧ AtK K mg "takes" 32 nBA ["beat", "move", "clock"] true
  B33 : At K mg "number_of" 33 nCM ∧ AtK K mg "number_of" 33 nCM ["move", "clock"] true
  B34 : At K mg "move_at" 34 nMA ∧ AtK K mg "move_at" 34 nMA ["number", "clock"] true
  B35 : At K mg "all_moves" 35 ["clock"] ∧ AtK K mg "all_moves" 35 ["clock"] ["clock"] false
  A37 : At K mg "_law_feed" 37 ["_law_script"]
  A38 : At K mg "_law_pick" 38 pPick
  A39 : At K mg "_law_power" 39 pLPow
  A40 : At K mg "_law_clock" 40 ["_law_feed_here"]
  A41 : At K mg "_law_turns" 41 ["_law_clock_here"]
  A42 : At K mg "_law_factor" 42 pLF
  A43 : At K mg "_law_takes" 43 nLTk
  A44 : At K mg "_law_then" 44 pLTh
  A45 : At K mg "_law_back" 45 pLB
  A46 : At K mg "_law_times" 46 pLTm
  A47 : At K mg "_law_move" 47 nLM
  A48 : At K mg "_law_many" 48 pLMy
  A49 : At K mg "_law_same" 49 nSame
  A51 : At K mg "_law_pairs" 51 pPs
  A52 : At K mg "_law_one" 52 pOn
  A53 : At K mg "_law_all" 53 ["_law_clock_here"]
  A54 : At K mg "_law_odd" 54 ["_law_clock_here"]
  A57 : At K mg "_law_names" 57 pNm
  A58 : At K mg "law" 58 ["_law_script"]
  A50 : At K mg "_law_no" 50 pNo
  L55 : AtL K mg "_law_refused" 55 pRf c1
  L56 : AtL K mg "_law_numbers" 56 pNb c2
theorem law_of [Tb] {c1 c2 P1 P2 ai : Addr} (b : Bt mg) (S : ErrA K mg C) (hI : mg "IDLE" = some (.ref ai)) (hIK : ∀ H B, VR K H B (.ref ai) (pr (0, 0))) (A : Defs K mg c1 c2) (T1 : TabK mg base "_law_refused" c1 P1) (T2 : TabK mg base "_law_numbers" c2 P2) :
    FnV P w K mg base 9 "law" ["_law_script"] R_law := by
  obtain ⟨fI, fdI, iC, tI, FI⟩ := S.I
  have bI : Binds K fdI ["self", "word", "at"] [] := FI.binds fun _ _ _ _ _ _ us hl => match us, hl with | [_, _, _], _ => rfl
  have E1 : ErrV P w K mg base 1 "NotUsable" C "word" "at" := ⟨S.E.mgC, S.T, fI, fdI, _, iC, tI, ok_init FI S.T S.E.fw S.E.fa, bI⟩
  have F1 : FnV P w K mg base 1 "multiplied" ["factors"] R_mult := fn_mult A.A1 
  have F2 : FnV P w K mg base 1 "power_modulo" pPow R_pow := fn_pow A.A2 
  have F4 : FnV P w K mg base 2 "turns_in" ["clock"] R_turns := fn_turns A.A4 F1
  have F5 : FnV P w K mg base 3 "size_in" ["clock"] R_size := fn_size A.A5 F4
  have F6 : FnV P w K mg base 2 "factor_in" ["clock", "turn"] R_fac := fn_fac A.A6 F1 F2
  have F7 : FnV P w K mg base 3 "every_move" ["clock"] R_em := fn_em A.A7 b F4
  have F8 : FnV P w K mg base 1 "number_in" nCM R_num := fn_num A.A8 
  have F9 : FnV P w K mg base 3 "beat_after" nBA R_ba := fn_ba A.A9 F6
  have F10 : FnV P w K mg base 4 "joined" nCOO R_join := fn_join A.A10 F9 F4
  have F11 : FnV P w K mg base 3 "back_in" nCM R_back := fn_back A.A11 F6 F4
  have F12 : FnV P w K mg base 3 "turned_in" pTn R_tn := fn_tn A.A12 F6
  have F14 : FnV P w K mg base 1 "is_integer" nThing R_integer := fn_integer A.A14 b
  have F15 : FnV P w K mg base 2 "is_number" nThing R_number := fn_number A.A15 F14
  have F16 : FnV P w K mg base 3 "is_below" nBel R_bel := fn_bel A.A16 F15
  have F17 : FnV P w K mg base 1 "is_pair" nThing R_pair := fn_pair A.A17 b
  have F18 : FnV P w K mg base 4 "is_move" nIM R_im := fn_im A.A18 F17 F16 F4
  have F24 : FnV P w K mg base 3 "need" nNeed (R_need C) := fn_need A.A24 E1
  have F27 := fn_at A.B27.1 scFAt (b_fat F16 F24 F4 F6)
  have F28 := fn_at A.B28.1 scThen (b_then F18 F24 F10)
  have F29 := fn_at A.B29.1 scBackOf (b_backof F18 F24 F11)
  have F30 := fn_at A.B30.1 scMT (b_mt b hI hIK F18 F24 F10 F14 F5)
  have F31 := fn_at A.B31.1 scTB (b_tb F18 F24 F12)
  have F32 := fn_at A.B32.1 scTk (b_tk F18 F24 F16 F9)
  have F33 := fn_at A.B33.1 scNO (b_no F18 F24 F8)
  have F34 := fn_at A.B34.1 scMA (b_ma F16 F24 F5)
  have F35 := fn_at A.B35.1 scAM (b_am F7)
  have G27 := fn_atK A.B27.2 scFAt (b_fat F16 F24 F4 F6)
  have G28 := fn_atK A.B28.2 scThen (b_then F18 F24 F10)
  have G29 := fn_atK A.B29.2 scBackOf (b_backof F18 F24 F11)
  have G30 := fn_atK A.B30.2 scMT (b_mt b hI hIK F18 F24 F10 F14 F5)
  have G31 := fn_atK A.B31.2 scTB (b_tb F18 F24 F12)
  have G32 := fn_atK A.B32.2 scTk (b_tk F18 F24 F16 F9)
  have G33 := fn_atK A.B33.2 scNO (b_no F18 F24 F8)
  have G34 := fn_atK A.B34.2 scMA (b_ma F16 F24 F5)
  have G35 := fn_atK A.B35.2 scAM (b_am F7)
  have KK : Ks P w K mg base C := ⟨G27, G28, G29, G30, G31, G32, G33, G34, G35⟩
  have F37 : FnVN P w K mg base 1 "_law_feed" ["_law_script"] R_feed := fn_feed A.A37 b
  have F38 : FnVM P w K mg base 1 "_law_pick" pPick R_pick := fn_pick A.A38 b
  have F39 : FnV P w K mg base 1 "_law_power" pLPow R_lpow := fn_lpow A.A39 b
  have F40 : FnVM P w K mg base 2 "_law_clock" ["_law_feed_here"] R_clock := fn_clock A.A40 b F38 F39
  have F41 : FnV P w K mg base 1 "_law_turns" ["_law_clock_here"] R_turns := fn_lturns A.A41 
  have F42 : FnV P w K mg base 2 "_law_factor" pLF R_fac := fn_lfac A.A42 b F39
  have F43 : FnV P w K mg base 3 "_law_takes" nLTk R_ba := fn_ltakes A.A43 b F42
  have F44 : FnV P w K mg base 4 "_law_then" pLTh R_join := fn_lthen A.A44 b F43 F41
  have F45 : FnV P w K mg base 5 "_law_back" pLB R_back := fn_lback A.A45 b F44 F41
  have F46 : FnV P w K mg base 5 "_law_times" pLTm R_ltm := fn_ltimes A.A46 b F44 F41
  have F47 : FnVM P w K mg base 2 "_law_move" nLM R_lmove := fn_lmove A.A47 F38 F41
  have F48 : FnVM P w K mg base 2 "_law_many" pLMy R_lmany := fn_lmany A.A48 F38
  have F49 : FnV P w K mg base 2 "_law_same" nSame R_same := fn_same A.A49 b
  have FF : Fs P w K mg base C := ⟨F27, F28, F29, F30, F31, F32, F33, F34, F35, F49, F41, F43, F44, F45, F46⟩
  have F51 : FnV P w K mg base 6 "_law_pairs" pPs R_ps := fn_pairs A.A51 b FF
  have F52 : FnV P w K mg base 6 "_law_one" pOn R_on := fn_one A.A52 b FF
  have F53 : FnV P w K mg base 5 "_law_all" ["_law_clock_here"] R_al := fn_all A.A53 b FF
  have F54 : FnV P w K mg base 2 "_law_odd" ["_law_clock_here"] R_odd := fn_odd A.A54 FF
  have F57 : FnV P w K mg base 6 "_law_names" pNm R_nm := fn_names A.A57 b FF KK
  obtain ⟨gN, fdN, FN, hN, bN⟩ := A.A50.ex
  have NN : NoK P w K mg base C gN fdN := ⟨FN, hN, bN, fn_sameH A.A49 b, S.E⟩
  have F55 : FnV P w K mg base 8 "_law_refused" pRf R_rf := fn_refused A.L55 T1 NN b FF
  have F56 : FnV P w K mg base 8 "_law_numbers" pNb R_nb := fn_numbers A.L56 T2 NN b FF
  exact fn_law A.A58 b ⟨FF, F37, F38, F40, F47, F48, F51, F52, F53, F54, F55, F56, F57⟩
end
end K01
namespace VL
open PySem PySem.Spec PyProof.Rows L2
/-! ### the end: the law's def is called by the one who holds it to its word, where no guard stands -/
section
variable {K : PySem.W.Frag} {h : Heap} {ts : List Addr} {a : Addr} {L : Obj} {xs : List V}
/-- what is followed at the call: the tables, and the script where the fixed part doesn't hold it -/
def seen (K : PySem.W.Frag) (ts : List Addr) (a : Addr) (L : Obj) (xs : List V) : Hp := fun b =>
  if b ∈ ts then some (.tbl #[]) else if b = a ∧ (K.lookup a).isNone = true then some (.frz L (.lst xs)) else none
theorem seen_tab {b : Addr} (hb : b ∈ ts) : seen K ts a L xs b = some (.tbl #[]) := if_pos hb
theorem seen_off {b : Addr} (h1 : b ∉ ts) (h2 : ¬ (b = a ∧ (K.lookup a).isNone = true)) : seen K ts a L xs b = none := (if_neg h1).trans (if_neg h2)
theorem seen_a (h1 : a ∉ ts) (h2 : K.lookup a = none) : seen K ts a L xs a = some (.frz L (.lst xs)) := (if_neg h1).trans (if_pos ⟨rfl, by rw [h2]; rfl⟩)
theorem seen_cases {b : Addr} {u : HO} (q : seen K ts a L xs b = some u) : (b ∈ ts ∧ u = .tbl #[]) ∨ (b = a ∧ K.lookup a = none ∧ u = .frz L (.lst xs)) := by
  unfold seen at q
  split at q
  · rename_i m
    exact .inl ⟨m, (Option.some.inj q).symm⟩
  · split at q
    · rename_i m
      exact .inr ⟨m.1, Option.isNone_iff_eq_none.mp m.2, (Option.some.inj q).symm⟩
    · cases q
/-- an object that is neither a table nor the script is not followed -/
theorem seen_free (tT : ∀ p ∈ ts, h.get? p = some (PySem.W.tabObj #[])) (tA : h.get? a = some L) {b : Addr} {o : Obj} (e : h.get? b = some o) (n1 : o ≠ PySem.W.tabObj #[]) (n2 : o ≠ L) : seen K ts a L xs b = none := by
  refine seen_off (fun m => ?_) fun m => ?_
  · have q := tT b m
    rw [e] at q
    exact n1 (Option.some.inj q)
  · rw [m.1, tA] at e
    exact n2 (Option.some.inj e).symm
theorem seen_kin (X : K.In h) (tK : ∀ p ∈ ts, K.lookup p = none) : K.In (hidT h (seen K ts a L xs)) := fun b o e => by
  refine hidT_get (X b o e) (seen_off (fun m => ?_) fun m => ?_)
  · rw [tK b m] at e
    cases e
  · rw [m.1] at e
    rw [e] at m
    cases m.2
theorem seen_ns (tT : ∀ p ∈ ts, h.get? p = some (PySem.W.tabObj #[])) {vs : List Value} (tA : h.get? a = some { cls := .type "list", data := .seq vs.toArray }) {b : Addr} {m : Str → Option Value} (N : h.Ns b m) :
    (hidT h (seen K ts a { cls := .type "list", data := .seq vs.toArray } xs)).Ns b m := by
  obtain ⟨o, es, ep, e, d, rest⟩ := N
  refine ⟨o, es, ep, hidT_get e (seen_free tT tA e (fun z => ?_) fun z => ?_), d, rest⟩
  · rw [z] at d
    cases d
  · rw [z] at d
    cases d
theorem nothing_thrown {P : Program} {w : World} {H : Hp} {s s' : Shared} {e : Value} (q : L2N.CX P w [] H s (fun _ _ _ => False) e s') : False := by
  obtain ⟨_, _, _, _, _, _, _, _, _, _, _, _, z⟩ := q
  exact z.elim
end
theorem ending {l : PySem.W.OpenLaw} {n k : Nat} {p : Program} {loose : List Str} {XP : (Str → Option Value) → Heap → Prop} {YP : World → Heap → Prop} {d : DefRec} {K : Params → PySem.W.Frag} {x : Str} {R : Rel} (T : List (Addr × Str))
    (most : l.most = some n) (small : n ≤ sizeLine) (plain : d.params.defaults = []) (room : Room k callerA) (kin : ∀ (w : World) (h : Heap), YP w h → (K w.params).In h)
    (tab : ∀ (w : World) (h : Heap), YP w h → ∀ q ∈ T.map (·.1), h.get? q = some (PySem.W.tabObj #[]) ∧ (K w.params).lookup q = none ∧ ∃ c, PySem.W.CodeHd h c q)
    (good : ∀ ns : List Int, ns.length ≤ n → R [.lst (ns.map PV.int)] (.ok (.bl true)))
    (F : ∀ (w : World) (mg : Str → Option Value) (h : Heap), YP w h → (K w.params).In h → h.Ns mainGlobals mg → ∀ base : Heap, (K w.params).In base → (∀ q ∈ T.map (·.1), base.BuiltinsAt mg q ∧ mainGlobals ≠ q) → @FnV ⟨T⟩ l.prog w (K w.params) mg base k d.name [x] R) :
    PySem.W.WalkO p loose XP YP l.row.toRowW d [] (fun f us => PySem.call f us) := by
  refine Att.attach_callB most plain fun w s0 s mg mb fa o pm cd doc a us ns Gr Y _ _ _ toF isL areI few _ noG => ?_
  have X := kin w _ Y
  have tb := tab w _ Y
  generalize hL : ({ cls := .type "list", data := .seq us.toArray } : Obj) = L at isL
  let H : Hp := seen (K w.params) (T.map (·.1)) a L (ns.map V.int)
  have tT : ∀ q ∈ T.map (·.1), s.heap.get? q = some (PySem.W.tabObj #[]) := fun q hq => (tb q hq).1
  have nA : a ∉ T.map (·.1) := fun m => by
    have z := tT a m
    rw [isL, ← hL] at z
    cases z
  have X' : (K w.params).In (hidT s.heap H) := seen_kin X fun q hq => (tb q hq).2.1
  have ns' : ∀ {b : Addr} {m : Str → Option Value}, s.heap.Ns b m → (hidT s.heap H).Ns b m := fun N => by
    subst hL
    exact seen_ns tT isL N
  have M : L2.Mod (K w.params) mg (hidT s.heap H) :=
    { kin := X'
      glob := ns' Gr.T.g
      blt := ⟨mb, ns' Gr.T.b, Gr.T.builtins⟩
      nolimit := by
        obtain ⟨mc, c1, c2⟩ := Gr.T.nolimit
        exact ⟨mc, ns' c1, c2⟩ }
  have mods : ∀ q ∈ T.map (·.1), (hidT s.heap H).BuiltinsAt mg q ∧ mainGlobals ≠ q := fun q hq => by
    obtain ⟨bm, ob, c1, c2, c3, c4, c5, c6⟩ := Gr.T.bmain
    obtain ⟨og, es, ep, g1, g2, _⟩ := Gr.T.g
    have t1 := tT q hq
    have apart : mainGlobals ≠ q := fun z => by
      rw [← z, g1] at t1
      rw [Option.some.inj t1] at g2
      cases g2
    refine ⟨⟨bm, ob, c1, c2, fun z => ?_, fun z => ?_, hidT_get c3 (seen_free tT isL c3 (fun z => ?_) fun z => ?_), c4, c5, c6⟩, apart⟩
    · rw [z, g1] at c3
      rw [← Option.some.inj c3, g2] at c6
      cases c6
    · rw [z, t1] at c3
      rw [← Option.some.inj c3] at c6
      cases c6
    · rw [z] at c6
      cases c6
    · rw [z, ← hL] at c6
      cases c6
  have ok : HOk l.prog w H s.heap := fun b u q => by
    rcases seen_cases q with ⟨m, rfl⟩ | ⟨rfl, _, rfl⟩
    · exact tT b m
    · exact ⟨isL, by rw [List.length_map]; exact Nat.le_trans few small, us, _, vals_ints areI, by rw [isL, ← hL]⟩
  have start : Env0 l.prog w (K w.params) mg (hidT s.heap H) callerA [] s H :=
    { frames := rfl
      mod := M
      bs := fun _ _ e => of_hidT e
      bsz := Nat.le_of_eq (hidT_size s.heap H)
      funs := trivial
      frf := fun b z => by cases z
      hok := ok
      bare := AllBare.of_eq noG }
  have script : SqL (K w.params) H a (ns.map V.int) := by
    cases q : (K w.params).lookup a with
    | none => exact .inl (.inr ⟨L, seen_a nA q⟩)
    | some u =>
      have e := X a u q
      rw [isL] at e
      obtain rfl := Option.some.inj e
      subst hL
      exact .inr ⟨_, us.toArray, _, q, rfl, rfl, rfl, by rw [List.size_toArray, areI.length]; exact Nat.le_trans few small, by simpa using vals_ints areI⟩
  obtain ⟨f, fd, toF', _, Fn, bind⟩ := F w mg s.heap Y X Gr.T.g (hidT s.heap H) X' mods
  obtain rfl : fa = f := by
    rw [toF] at toF'
    exact Value.ref.inj (Option.some.inj toF')
  letI : Tb := ⟨T⟩
  have promise : @spOf ⟨T⟩ (K w.params) [x].length R [.ref a] H (fun v _ => v = .bl true) (fun _ _ _ => False) :=
    ⟨fun q hq => LamX.TabS.nil (seen_tab (List.mem_map.mpr ⟨q, hq, rfl⟩)), [.lst (ns.map PV.int)], .ok (.bl true), fun _ => False, .lst (script.elim (fun q => .inl ⟨fun z => z, q⟩) .inr) VRs.ints .nil, fun _ z => z.elim, rfl, good ns few, fun _ _ _ r => vr_bl r⟩
  refine codeAny_mono (Fn.run callerA [] s H ⟨[.ref a], []⟩ [.ref a] [.ref a] _ _ room rfl start (bind s [.ref a] X rfl) (.cons rfl .nil) promise) fun r s' q => ?_
  match r, q with
  | .error _, q => exact (nothing_thrown q).elim
  | .ok .next, q => exact False.elim q
  | .ok .brk, q => exact False.elim q
  | .ok .cont, q => exact False.elim q
  | .ok (.ret u), q =>
    obtain ⟨v, H', os, bare, un, ok', rv, rfl⟩ := q
    obtain rfl : u = Value.bool true := rv
    have after : ∀ b o', s.heap.get? b = some o' → (b ∉ T.map (·.1) ∧ s'.heap.get? b = some o') ∨ (b ∈ T.map (·.1) ∧ ∃ more : Array Value, s'.heap.get? b = some (PySem.W.tabObj more)) := fun b o' e => by
      cases q : H b with
      | none =>
        refine .inl ⟨fun m => ?_, un.keep b o' e q (fun z => (by cases z)) (fun z => (by cases z))⟩
        have z : H b = some (.tbl #[]) := seen_tab m
        rw [q] at z
        cases z
      | some u =>
        rcases seen_cases q with ⟨m, rfl⟩ | ⟨rfl, _, rfl⟩
        · obtain ⟨more, z⟩ := un.tbls b #[] q
          exact .inr ⟨m, _, ok' b _ z⟩
        · refine .inl ⟨nA, ?_⟩
          rw [isL] at e
          obtain rfl := Option.some.inj e
          exact (ok' _ _ (un.frzs _ _ _ q)).1
    refine ⟨rfl, { old := fun b o' e => ?_, there := fun b o' e => ?_ }, os, bare⟩
    · rcases after b o' e with ⟨_, z⟩ | ⟨m, more, z⟩
      · exact .inl z
      · have t1 := tT b m
        obtain ⟨c, hc⟩ := (tb b m).2.2
        rw [t1] at e
        obtain rfl := Option.some.inj e
        exact .inr (.inl ⟨(hc.tab t1).isCodeTable, rfl, #[], more, rfl, by rw [Array.empty_append]; exact z⟩)
    · rcases after b o' e with ⟨_, z⟩ | ⟨_, more, z⟩
      · exact ⟨_, z⟩
      · exact ⟨_, z⟩
end VL
namespace K01
open PySem PySem.Spec PyProof.Rows L2 VL
section
variable {P : Program} {w : World} {K : PySem.W.Frag} {mg : Str → Option Value} {base : Heap} {C : Addr}
theorem oex_mk {ob : Obj} {nm q : Str} {N : Addr} {bs bm : List Value} {sn : List Str} {sub : List Value} {ab : Bool} {col : Option Bool} {dd : Option Addr} {k0 k1 k2 k3 k5 : Option Value} (l : K.lookup C = some ob)
    (e : ob = excClassObj nm q C N bs bm true sn sub ab col dd k0 k1 k2 k3 k5 "ValueError.__new__") (r : PySem.HandSPX.refsVE bm = true) (sa : PySem.W.findIn K (.ref C) "__setattr__" = some (some (.builtin "object.__setattr__")))
    (ex : PySem.W.subIn K (.ref C) (.type "BaseException") = some true) (ty : PySem.W.typeIn K (.ref C) = some (.type "type")) (kc : PySem.W.keepIn K (.ref C) = true) : OexC K C :=
  ⟨⟨nm, q, N, bs, bm, sn, sub, ab, col, dd, k0, k1, k2, k3, k5, e ▸ l, r⟩, sa, ex, ty, kc⟩
theorem cls_ok {S : Addr} {t : Value} (h2 : PySem.W.isClsIn K S = true) (h3 : PySem.W.typeIn K (.ref S) = some (.type "type")) (h4 : PySem.W.subIn K t (.ref S) = some true) : PySem.W.kitCls K t (.ref S) = some true := by
  have e2 : ((PySem.W.clsIn K S).isSome && PySem.W.typeIn K (.ref S) == some (.type "type")) = true := by
    rw [show (PySem.W.clsIn K S).isSome = true from h2, h3]
    rfl
  exact (if_pos e2).trans h4
theorem exm_ok (h1 : PySem.W.subIn K (.ref C) (.type "BaseException") = some true) (h2 : PySem.W.isClsIn K C = true) (h3 : PySem.W.typeIn K (.ref C) = some (.type "type")) (h4 : PySem.W.subIn K (.ref C) (.ref C) = some true) : PySem.W.exmOne K (.ref C) (.ref C) = some true := by
  unfold PySem.W.exmOne
  rw [h1]
  exact cls_ok h2 h3 h4
theorem idle_of {ai n : Nat} {t1 t2 : Tok} {dd : Option Addr} {sl : Array (Option Value)} (l : K.lookup ai = some ⟨.type "tuple", dd, .seq #[.int 0 t1, .int 0 t2] n, sl⟩) : ∀ H B, VR K H B (.ref ai) (pr (0, 0)) := fun H B =>
  .tup (ws := [.int 0, .int 0]) (.inr ⟨_, _, n, l, rfl, rfl, (show (2 : Nat) ≤ sizeLine by decide), .cons ⟨t1, rfl⟩ (.cons ⟨t2, rfl⟩ .nil)⟩) (.int (.int .nil)) .nil
abbrev tabsT (P1 P2 : Addr) : List (Addr × Str) := [(P1, ("_law_refused" : Str) ++ ".<locals>." ++ "<lambda>"), (P2, ("_law_numbers" : Str) ++ ".<locals>." ++ "<lambda>")]
theorem tabs_two {P1 P2 c1 c2 : Addr} {ts : List Addr} {h : Heap} (X : K.In h) (hT : ∀ q ∈ ts, h.get? q = some (PySem.W.tabObj #[])) (m1 : P1 ∈ ts) (m2 : P2 ∈ ts) (n1 : K.lookup P1 = none) (n2 : K.lookup P2 = none) (h1 : PySem.W.codeHdIn K c1 P1 = true) (h2 : PySem.W.codeHdIn K c2 P2 = true) :
    ∀ q ∈ (tabsT P1 P2).map (·.1), h.get? q = some (PySem.W.tabObj #[]) ∧ K.lookup q = none ∧ ∃ c, PySem.W.CodeHd h c q := fun q hq => by
  have hq' : q = P1 ∨ q = P2 := by simpa using hq
  rcases hq' with rfl | rfl
  · exact ⟨hT _ m1, n1, c1, PySem.W.codeHd_of_K X h1⟩
  · exact ⟨hT _ m2, n2, c2, PySem.W.codeHd_of_K X h2⟩
theorem law_fin {P1 P2 c1 c2 ai : Addr} (ne : P1 ≠ P2) (b : Bt mg) (S : ErrA K mg C) (hI : mg "IDLE" = some (.ref ai)) (hIK : ∀ H B, VR K H B (.ref ai) (pr (0, 0))) (A : Defs K mg c1 c2) (h1 : PySem.W.codeHdIn K c1 P1 = true) (h2 : PySem.W.codeHdIn K c2 P2 = true) (X : K.In base)
    (hB : ∀ q ∈ (tabsT P1 P2).map (·.1), base.BuiltinsAt mg q ∧ mainGlobals ≠ q) : @FnV ⟨tabsT P1 P2⟩ P w K mg base 9 "law" ["_law_script"] R_law := by
  letI : Tb := ⟨tabsT P1 P2⟩
  have b1 := hB P1 (by simp)
  have b2 := hB P2 (by simp)
  refine law_of b S hI hIK A (P1 := P1) (P2 := P2) ⟨LamX.TabB.mk (PySem.W.codeHd_of_K X h1) b1.1 b1.2, List.mem_cons_self, fun p hp e => ?_⟩ ⟨LamX.TabB.mk (PySem.W.codeHd_of_K X h2) b2.1 b2.2, List.mem_cons_of_mem _ List.mem_cons_self, fun p hp e => ?_⟩
  · have hp' : p = (P1, ("_law_refused" : Str) ++ ".<locals>." ++ "<lambda>") ∨ p = (P2, ("_law_numbers" : Str) ++ ".<locals>." ++ "<lambda>") := by
      have hp2 : p ∈ tabsT P1 P2 := hp
      simpa using hp2
    rcases hp' with rfl | rfl
    · rfl
    · exact absurd e.symm ne
  · have hp' : p = (P1, ("_law_refused" : Str) ++ ".<locals>." ++ "<lambda>") ∨ p = (P2, ("_law_numbers" : Str) ++ ".<locals>." ++ "<lambda>") := by
      have hp2 : p ∈ tabsT P1 P2 := hp
      simpa using hp2
    rcases hp' with rfl | rfl
    · exact absurd e ne
    · rfl
end
end K01
open PySem PySem.W PyProof.Rows
set_option maxHeartbeats 0 in
theorem PySem.Challenge.cw_evenlater_k01_whole_moves_and_beats_holds : PySem.Challenge.rw_evenlater_k01_whole_moves_and_beats.Holds := by
  w_on; o_law; k_head; (case hw => w_witness2)
  k_fill
  refine VL.ending (l := PySem.Challenge.rw_evenlater_k01_whole_moves_and_beats) (n := 63) (k := 9) (x := "_law_script") (R := K01.R_law) (K01.tabsT 357 362) rfl (by decide) rfl ⟨rfl, by decide, by decide⟩ (fun w h Y => PySem.W.km_in_of Y) ?T (fun ns few => ⟨ns, by omega, rfl, rfl⟩) ?F
  case T =>
    intro w h Y
    refine K01.tabs_two (c1 := ?c1) (c2 := ?c2) (PySem.W.km_in_of Y) (PySem.W.km_tabs_of Y) (by decide) (by decide) ?n1 ?n2 ?h1 ?h2
    (case c1 => exact 359)
    (case c2 => exact 364)
    (case n1 => first | k_is | rfl | decide)
    (case n2 => first | k_is | rfl | decide)
    (case h1 => first | k_is | rfl | decide)
    (case h2 => first | k_is | rfl | decide)
  case F =>
    intro w mg h Y KX G base X' hB
    refine' K01.law_fin (C := ?gC) (ai := ?gA) (by decide)
      ⟨PySem.W.mg_none_of KX G ?z0, PySem.W.mg_none_of KX G ?z1, PySem.W.mg_none_of KX G ?z2, PySem.W.mg_none_of KX G ?z3, PySem.W.mg_none_of KX G ?z4, PySem.W.mg_none_of KX G ?z5, PySem.W.mg_none_of KX G ?z6, PySem.W.mg_none_of KX G ?z7⟩
      ⟨⟨PySem.W.mg_of KX G ?gn, K01.exm_ok ?m1 ?m2 ?m3 ?m4, ⟨?x1, ?x2, ?x3, ?x4⟩, ?fw, ?fa⟩, K01.oex_mk ?ocl ?oeq ?orf ?osa ?oex ?oty ?okc, ⟨?gI, _, ?iC, ?tI, L2.fun_mk ?lI ?cI ?kI⟩⟩
      (PySem.W.mg_of KX G ?gi) (K01.idle_of ?li) (K01.Defs.mk
        (K01.at_mk (x := "multiplied") (i := 1) (ps := ["factors"]) KX G ?a1 ?l1 ?c1 ?k1 (fun _ _ _ _ _ _ us hl => match us, hl with | [_], _ => rfl))
        (K01.at_mk (x := "power_modulo") (i := 2) (ps := K01.pPow) KX G ?a2 ?l2 ?c2 ?k2 (fun _ _ _ _ _ _ us hl => match us, hl with | [_, _, _], _ => rfl))
        (K01.at_mk (x := "turns_in") (i := 4) (ps := ["clock"]) KX G ?a4 ?l4 ?c4 ?k4 (fun _ _ _ _ _ _ us hl => match us, hl with | [_], _ => rfl))
        (K01.at_mk (x := "size_in") (i := 5) (ps := ["clock"]) KX G ?a5 ?l5 ?c5 ?k5 (fun _ _ _ _ _ _ us hl => match us, hl with | [_], _ => rfl))
        (K01.at_mk (x := "factor_in") (i := 6) (ps := ["clock", "turn"]) KX G ?a6 ?l6 ?c6 ?k6 (fun _ _ _ _ _ _ us hl => match us, hl with | [_, _], _ => rfl))
        (K01.at_mk (x := "every_move") (i := 7) (ps := ["clock"]) KX G ?a7 ?l7 ?c7 ?k7 (fun _ _ _ _ _ _ us hl => match us, hl with | [_], _ => rfl))
        (K01.at_mk (x := "number_in") (i := 8) (ps := K01.nCM) KX G ?a8 ?l8 ?c8 ?k8 (fun _ _ _ _ _ _ us hl => match us, hl with | [_, _], _ => rfl))
        (K01.at_mk (x := "beat_after") (i := 9) (ps := K01.nBA) KX G ?a9 ?l9 ?c9 ?k9 (fun _ _ _ _ _ _ us hl => match us, hl with | [_, _, _], _ => rfl))
        (K01.at_mk (x := "joined") (i := 10) (ps := K01.nCOO) KX G ?a10 ?l10 ?c10 ?k10 (fun _ _ _ _ _ _ us hl => match us, hl with | [_, _, _], _ => rfl))
        (K01.at_mk (x := "back_in") (i := 11) (ps := K01.nCM) KX G ?a11 ?l11 ?c11 ?k11 (fun _ _ _ _ _ _ us hl => match us, hl with | [_, _], _ => rfl))
        (K01.at_mk (x := "turned_in") (i := 12) (ps := K01.pTn) KX G ?a12 ?l12 ?c12 ?k12 (fun _ _ _ _ _ _ us hl => match us, hl with | [_, _, _], _ => rfl))
        (K01.at_mk (x := "is_integer") (i := 14) (ps := K01.nThing) KX G ?a14 ?l14 ?c14 ?k14 (fun _ _ _ _ _ _ us hl => match us, hl with | [_], _ => rfl))
        (K01.at_mk (x := "is_number") (i := 15) (ps := K01.nThing) KX G ?a15 ?l15 ?c15 ?k15 (fun _ _ _ _ _ _ us hl => match us, hl with | [_], _ => rfl))
        (K01.at_mk (x := "is_below") (i := 16) (ps := K01.nBel) KX G ?a16 ?l16 ?c16 ?k16 (fun _ _ _ _ _ _ us hl => match us, hl with | [_, _], _ => rfl))
        (K01.at_mk (x := "is_pair") (i := 17) (ps := K01.nThing) KX G ?a17 ?l17 ?c17 ?k17 (fun _ _ _ _ _ _ us hl => match us, hl with | [_], _ => rfl))
        (K01.at_mk (x := "is_move") (i := 18) (ps := K01.nIM) KX G ?a18 ?l18 ?c18 ?k18 (fun _ _ _ _ _ _ us hl => match us, hl with | [_, _], _ => rfl))
        (K01.at_mk (x := "need") (i := 24) (ps := K01.nNeed) KX G ?a24 ?l24 ?c24 ?k24 (fun _ _ _ _ _ _ us hl => match us, hl with | [_, _], _ => rfl))
        (K01.atK_mk (x := "factor_at") (i := 27) (ps := K01.nCT) (ks := ["turn", "clock"]) (rev := true) KX G ?a27 ?l27 ?c27 ?k27 (fun _ _ _ _ _ _ us hl => match us, hl with | [_, _], _ => rfl) (fun _ _ _ _ _ _ ws hl => match ws, hl with | [_, _], _ => rfl))
        (K01.atK_mk (x := "then") (i := 28) (ps := K01.nCOO) (ks := ["other", "one", "clock"]) (rev := true) KX G ?a28 ?l28 ?c28 ?k28 (fun _ _ _ _ _ _ us hl => match us, hl with | [_, _, _], _ => rfl) (fun _ _ _ _ _ _ ws hl => match ws, hl with | [_, _, _], _ => rfl))
        (K01.atK_mk (x := "back_of") (i := 29) (ps := K01.nCM) (ks := ["move", "clock"]) (rev := true) KX G ?a29 ?l29 ?c29 ?k29 (fun _ _ _ _ _ _ us hl => match us, hl with | [_, _], _ => rfl) (fun _ _ _ _ _ _ ws hl => match ws, hl with | [_, _], _ => rfl))
        (K01.atK_mk (x := "moved_times") (i := 30) (ps := K01.pMT) (ks := ["many", "move", "clock"]) (rev := true) KX G ?a30 ?l30 ?c30 ?k30 (fun _ _ _ _ _ _ us hl => match us, hl with | [_, _, _], _ => rfl) (fun _ _ _ _ _ _ ws hl => match ws, hl with | [_, _, _], _ => rfl))
        (K01.atK_mk (x := "turned_by") (i := 31) (ps := K01.pTn) (ks := ["by", "move", "clock"]) (rev := true) KX G ?a31 ?l31 ?c31 ?k31 (fun _ _ _ _ _ _ us hl => match us, hl with | [_, _, _], _ => rfl) (fun _ _ _ _ _ _ ws hl => match ws, hl with | [_, _, _], _ => rfl))
        (K01.atK_mk (x := "takes") (i := 32) (ps := K01.nBA) (ks := ["beat", "move", "clock"]) (rev := true) KX G ?a32 ?l32 ?c32 ?k32 (fun _ _ _ _ _ _ us hl => match us, hl with | [_, _, _], _ => rfl) (fun _ _ _ _ _ _ ws hl => match ws, hl with | [_, _, _], _ => rfl))
        (K01.atK_mk (x := "number_of") (i := 33) (ps := K01.nCM) (ks := ["move", "clock"]) (rev := true) KX G ?a33 ?l33 ?c33 ?k33 (fun _ _ _ _ _ _ us hl => match us, hl with | [_, _], _ => rfl) (fun _ _ _ _ _ _ ws hl => match ws, hl with | [_, _], _ => rfl))
        (K01.atK_mk (x := "move_at") (i := 34) (ps := K01.nMA) (ks := ["number", "clock"]) (rev := true) KX G ?a34 ?l34 ?c34 ?k34 (fun _ _ _ _ _ _ us hl => match us, hl with | [_, _], _ => rfl) (fun _ _ _ _ _ _ ws hl => match ws, hl with | [_, _], _ => rfl))
        (K01.atK_mk (x := "all_moves") (i := 35) (ps := ["clock"]) (ks := ["clock"]) (rev := false) KX G ?a35 ?l35 ?c35 ?k35 (fun _ _ _ _ _ _ us hl => match us, hl with | [_], _ => rfl) (fun _ _ _ _ _ _ ws hl => match ws, hl with | [_], _ => rfl))
        (K01.at_mk (x := "_law_feed") (i := 37) (ps := ["_law_script"]) KX G ?a37 ?l37 ?c37 ?k37 (fun _ _ _ _ _ _ us hl => match us, hl with | [_], _ => rfl))
        (K01.at_mk (x := "_law_pick") (i := 38) (ps := K01.pPick) KX G ?a38 ?l38 ?c38 ?k38 (fun _ _ _ _ _ _ us hl => match us, hl with | [_, _], _ => rfl))
        (K01.at_mk (x := "_law_power") (i := 39) (ps := K01.pLPow) KX G ?a39 ?l39 ?c39 ?k39 (fun _ _ _ _ _ _ us hl => match us, hl with | [_, _, _], _ => rfl))
        (K01.at_mk (x := "_law_clock") (i := 40) (ps := ["_law_feed_here"]) KX G ?a40 ?l40 ?c40 ?k40 (fun _ _ _ _ _ _ us hl => match us, hl with | [_], _ => rfl))
        (K01.at_mk (x := "_law_turns") (i := 41) (ps := ["_law_clock_here"]) KX G ?a41 ?l41 ?c41 ?k41 (fun _ _ _ _ _ _ us hl => match us, hl with | [_], _ => rfl))
        (K01.at_mk (x := "_law_factor") (i := 42) (ps := K01.pLF) KX G ?a42 ?l42 ?c42 ?k42 (fun _ _ _ _ _ _ us hl => match us, hl with | [_, _], _ => rfl))
        (K01.at_mk (x := "_law_takes") (i := 43) (ps := K01.nLTk) KX G ?a43 ?l43 ?c43 ?k43 (fun _ _ _ _ _ _ us hl => match us, hl with | [_, _, _], _ => rfl))
        (K01.at_mk (x := "_law_then") (i := 44) (ps := K01.pLTh) KX G ?a44 ?l44 ?c44 ?k44 (fun _ _ _ _ _ _ us hl => match us, hl with | [_, _, _], _ => rfl))
        (K01.at_mk (x := "_law_back") (i := 45) (ps := K01.pLB) KX G ?a45 ?l45 ?c45 ?k45 (fun _ _ _ _ _ _ us hl => match us, hl with | [_, _], _ => rfl))
        (K01.at_mk (x := "_law_times") (i := 46) (ps := K01.pLTm) KX G ?a46 ?l46 ?c46 ?k46 (fun _ _ _ _ _ _ us hl => match us, hl with | [_, _, _], _ => rfl))
        (K01.at_mk (x := "_law_move") (i := 47) (ps := K01.nLM) KX G ?a47 ?l47 ?c47 ?k47 (fun _ _ _ _ _ _ us hl => match us, hl with | [_, _], _ => rfl))
        (K01.at_mk (x := "_law_many") (i := 48) (ps := K01.pLMy) KX G ?a48 ?l48 ?c48 ?k48 (fun _ _ _ _ _ _ us hl => match us, hl with | [_, _], _ => rfl))
        (K01.at_mk (x := "_law_same") (i := 49) (ps := K01.nSame) KX G ?a49 ?l49 ?c49 ?k49 (fun _ _ _ _ _ _ us hl => match us, hl with | [_, _], _ => rfl))
        (K01.at_mk (x := "_law_pairs") (i := 51) (ps := K01.pPs) KX G ?a51 ?l51 ?c51 ?k51 (fun _ _ _ _ _ _ us hl => match us, hl with | [_, _, _], _ => rfl))
        (K01.at_mk (x := "_law_one") (i := 52) (ps := K01.pOn) KX G ?a52 ?l52 ?c52 ?k52 (fun _ _ _ _ _ _ us hl => match us, hl with | [_, _, _, _], _ => rfl))
        (K01.at_mk (x := "_law_all") (i := 53) (ps := ["_law_clock_here"]) KX G ?a53 ?l53 ?c53 ?k53 (fun _ _ _ _ _ _ us hl => match us, hl with | [_], _ => rfl))
        (K01.at_mk (x := "_law_odd") (i := 54) (ps := ["_law_clock_here"]) KX G ?a54 ?l54 ?c54 ?k54 (fun _ _ _ _ _ _ us hl => match us, hl with | [_], _ => rfl))
        (K01.at_mk (x := "_law_names") (i := 57) (ps := K01.pNm) KX G ?a57 ?l57 ?c57 ?k57 (fun _ _ _ _ _ _ us hl => match us, hl with | [_, _, _, _], _ => rfl))
        (K01.at_mk (x := "law") (i := 58) (ps := ["_law_script"]) KX G ?a58 ?l58 ?c58 ?k58 (fun _ _ _ _ _ _ us hl => match us, hl with | [_], _ => rfl))
        (K01.at_mk (x := "_law_no") (i := 50) (ps := K01.pNo) KX G ?a50 ?l50 ?c50 ?k50 (fun _ _ _ _ _ _ us hl => match us, hl with | [_, _], _ => rfl))
        (K01.atL_mk (x := "_law_refused") (i := 55) (ps := K01.pRf) KX G ?a55 ?l55 ?c55 ?k55 (fun _ _ _ _ _ _ us hl => match us, hl with | [_, _, _, _], _ => rfl))
        (K01.atL_mk (x := "_law_numbers") (i := 56) (ps := K01.pNb) KX G ?a56 ?l56 ?c56 ?k56 (fun _ _ _ _ _ _ us hl => match us, hl with | [_, _], _ => rfl)))
      ?h1 ?h2 X' hB
    (case gn => k_is)
    (case iC => k_is)
    (case z0 => k_is)
    (case z1 => k_is)
    (case z2 => k_is)
    (case z3 => k_is)
    (case z4 => k_is)
    (case z5 => k_is)
    (case z6 => k_is)
    (case z7 => k_is)
    (case gi => k_is)
    (case li => k_is)
    (case lI => k_is)
    (case cI => k_is)
    (case kI => k_is)
    (case tI => k_is)
    (case ocl => k_is)
    (case oeq => rfl)
    (case orf => first | rfl | decide | k_is)
    (case osa => k_is)
    (case oex => k_is)
    (case oty => k_is)
    (case okc => k_is)
    (case x1 => k_is)
    (case x2 => k_is)
    (case x3 => k_is)
    (case x4 => k_is)
    (case fw => k_is)
    (case fa => k_is)
    (case m1 => k_is)
    (case m2 => k_is)
    (case m3 => k_is)
    (case m4 => k_is)
    (case a1 => k_is)
    (case l1 => k_is)
    (case c1 => k_is)
    (case k1 => k_is)
    (case a2 => k_is)
    (case l2 => k_is)
    (case c2 => k_is)
    (case k2 => k_is)
    (case a4 => k_is)
    (case l4 => k_is)
    (case c4 => k_is)
    (case k4 => k_is)
    (case a5 => k_is)
    (case l5 => k_is)
    (case c5 => k_is)
    (case k5 => k_is)
    (case a6 => k_is)
    (case l6 => k_is)
    (case c6 => k_is)
    (case k6 => k_is)
    (case a7 => k_is)
    (case l7 => k_is)
    (case c7 => k_is)
    (case k7 => k_is)
    (case a8 => k_is)
    (case l8 => k_is)
    (case c8 => k_is)
    (case k8 => k_is)
    (case a9 => k_is)
    (case l9 => k_is)
    (case c9 => k_is)
    (case k9 => k_is)
    (case a10 => k_is)
    (case l10 => k_is)
    (case c10 => k_is)
    (case k10 => k_is)
    (case a11 => k_is)
    (case l11 => k_is)
    (case c11 => k_is)
    (case k11 => k_is)
    (case a12 => k_is)
    (case l12 => k_is)
    (case c12 => k_is)
    (case k12 => k_is)
    (case a14 => k_is)
    (case l14 => k_is)
    (case c14 => k_is)
    (case k14 => k_is)
    (case a15 => k_is)
    (case l15 => k_is)
    (case c15 => k_is)
    (case k15 => k_is)
    (case a16 => k_is)
    (case l16 => k_is)
    (case c16 => k_is)
    (case k16 => k_is)
    (case a17 => k_is)
    (case l17 => k_is)
    (case c17 => k_is)
    (case k17 => k_is)
    (case a18 => k_is)
    (case l18 => k_is)
    (case c18 => k_is)
    (case k18 => k_is)
    (case a24 => k_is)
    (case l24 => k_is)
    (case c24 => k_is)
    (case k24 => k_is)
    (case a27 => k_is)
    (case l27 => k_is)
    (case c27 => k_is)
    (case k27 => k_is)
    (case a28 => k_is)
    (case l28 => k_is)
    (case c28 => k_is)
    (case k28 => k_is)
    (case a29 => k_is)
    (case l29 => k_is)
    (case c29 => k_is)
    (case k29 => k_is)
    (case a30 => k_is)
    (case l30 => k_is)
    (case c30 => k_is)
    (case k30 => k_is)
    (case a31 => k_is)
    (case l31 => k_is)
    (case c31 => k_is)
    (case k31 => k_is)
    (case a32 => k_is)
    (case l32 => k_is)
    (case c32 => k_is)
    (case k32 => k_is)
    (case a33 => k_is)
    (case l33 => k_is)
    (case c33 => k_is)
    (case k33 => k_is)
    (case a34 => k_is)
    (case l34 => k_is)
    (case c34 => k_is)
    (case k34 => k_is)
    (case a35 => k_is)
    (case l35 => k_is)
    (case c35 => k_is)
    (case k35 => k_is)
    (case a37 => k_is)
    (case l37 => k_is)
    (case c37 => k_is)
    (case k37 => k_is)
    (case a38 => k_is)
    (case l38 => k_is)
    (case c38 => k_is)
    (case k38 => k_is)
    (case a39 => k_is)
    (case l39 => k_is)
    (case c39 => k_is)
    (case k39 => k_is)
    (case a40 => k_is)
    (case l40 => k_is)
    (case c40 => k_is)
    (case k40 => k_is)
    (case a41 => k_is)
    (case l41 => k_is)
    (case c41 => k_is)
    (case k41 => k_is)
    (case a42 => k_is)
    (case l42 => k_is)
    (case c42 => k_is)
    (case k42 => k_is)
    (case a43 => k_is)
    (case l43 => k_is)
    (case c43 => k_is)
    (case k43 => k_is)
    (case a44 => k_is)
    (case l44 => k_is)
    (case c44 => k_is)
    (case k44 => k_is)
    (case a45 => k_is)
    (case l45 => k_is)
    (case c45 => k_is)
    (case k45 => k_is)
    (case a46 => k_is)
    (case l46 => k_is)
    (case c46 => k_is)
    (case k46 => k_is)
    (case a47 => k_is)
    (case l47 => k_is)
    (case c47 => k_is)
    (case k47 => k_is)
    (case a48 => k_is)
    (case l48 => k_is)
    (case c48 => k_is)
    (case k48 => k_is)
    (case a49 => k_is)
    (case l49 => k_is)
    (case c49 => k_is)
    (case k49 => k_is)
    (case a51 => k_is)
    (case l51 => k_is)
    (case c51 => k_is)
    (case k51 => k_is)
    (case a52 => k_is)
    (case l52 => k_is)
    (case c52 => k_is)
    (case k52 => k_is)
    (case a53 => k_is)
    (case l53 => k_is)
    (case c53 => k_is)
    (case k53 => k_is)
    (case a54 => k_is)
    (case l54 => k_is)
    (case c54 => k_is)
    (case k54 => k_is)
    (case a57 => k_is)
    (case l57 => k_is)
    (case c57 => k_is)
    (case k57 => k_is)
    (case a58 => k_is)
    (case l58 => k_is)
    (case c58 => k_is)
    (case k58 => k_is)
    (case a50 => k_is)
    (case l50 => k_is)
    (case c50 => k_is)
    (case k50 => k_is)
    (case a55 => k_is)
    (case l55 => k_is)
    (case c55 => k_is)
    (case k55 => k_is)
    (case a56 => k_is)
    (case l56 => k_is)
    (case c56 => k_is)
    (case k56 => k_is)
    (case h1 => first | k_is | rfl | decide)
    (case h2 => first | k_is | rfl | decide)
