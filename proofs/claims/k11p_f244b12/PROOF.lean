import PyProof.Rows.All
import Wide.All
import OpenK.AllK
import Wide.FinOn
import PyProof.EqAt
import PyProof.EqKinds
import PyProof.TupleCall
import HandS.ForMost
import HandS.Wide
import HandS.WideBits
import HandS.Gcd
import HandS.IsInst
import HandS.Property
import HandS.ClsMeth
import HandS.FStr
import HandS.Flow
import HandS.OwnEq
import HandS.MakeKw
import HandS.MethStar
import KE.KOpsOwn
import KE.KMathG
import KE.KFmtOwn
import PyProof.InstNe
import KE.KCallOwn
import PyProof.Rows.ReprR
import PyProof.Rows.ReprShort
import HandS.MakeKwOnly
import HandS.Conv
import HandS.Style
import HandS.HeadNt
import HandS.HeadEnd
import HandS.Head0
import HandS.Head1
import HandS.Head2
import HandS.Head3
import KE.KStateDown
import PySem.Challenge.RW_innerfractions_k11_ratios_reckoned
set_option Elab.async false
set_option linter.all false
set_option maxRecDepth 100000
set_option maxHeartbeats 4000000
/-! Worlds and data: what an expression comes to, whatever else is laid. -/
namespace Inn
open PySem L2

/-- addresses that may change, and what holds of them throughout -/
structure Wld where
  M : Addr → Prop
  I : Hp → Prop
  st : ∀ {H H' : Hp}, I H → (∀ a, M a → H' a = H a) → I H'
  al : ∀ {H : Hp} {a : Addr}, I H → M a → ∃ o, H a = some o
/-- nothing changes -/
def W0 : Wld := ⟨fun _ => False, fun _ => True, fun _ _ => trivial, fun _ h => h.elim⟩
def Up (W : Wld) (H H' : Hp) : Prop := ∀ a o, ¬ W.M a → H a = some o → H' a = some o
theorem Up.refl {W : Wld} (H : Hp) : Up W H H := fun _ _ _ h => h
theorem Up.trans {W : Wld} {H H1 H2 : Hp} (a : Up W H H1) (b : Up W H1 H2) : Up W H H2 := fun x o n h => b x o n (a x o n h)
theorem Up.of {W : Wld} {H H' : Hp} (s : Same H H') : Up W H H' := fun a o _ h => s a o h
theorem not_M {W : Wld} {H : Hp} {p : Addr} (hI : W.I H) (hp : H p = none) : ¬ W.M p := fun m => by
  obtain ⟨o, e⟩ := W.al hI m
  rw [e] at hp
  cases hp
theorem Up.new {W : Wld} {H : Hp} {p : Addr} {o : HO} (h : H p = none) : Up W H (upd H p o) := fun a u _ e => by
  rw [upd_ne (ne_of_none e h)]
  exact e
theorem I_new {W : Wld} {H : Hp} {p : Addr} {o : HO} (hI : W.I H) (h : H p = none) : W.I (upd H p o) := W.st hI fun a m => by
  obtain ⟨u, e⟩ := W.al hI m
  exact upd_ne (ne_of_none e h)
/-- an object that was laid since may still be changed -/
theorem Up.mut {W : Wld} {H H' : Hp} {p : Addr} {o : HO} (e : Up W H H') (h : H p = none) : Up W H (upd H' p o) := fun a u n ha => by
  rw [upd_ne (ne_of_none ha h)]
  exact e a u n ha
theorem I_mut {W : Wld} {H : Hp} {p : Addr} {o : HO} (hI : W.I H) (h : ¬ W.M p) : W.I (upd H p o) := W.st hI fun a m => upd_ne fun z => h (z ▸ m)

/-- data of a kind, as it stands in the abstract heap -/
class Dat (α : Type) where
  Is : Wld → Hp → V → α → Prop
  up : ∀ {W : Wld} {H H' : Hp} {v : V} {x : α}, Up W H H' → Is W H v x → Is W H' v x
open Dat (Is)
instance : Dat Int := ⟨fun _ _ v x => v = .int x, fun _ h => h⟩
instance : Dat Bool := ⟨fun _ _ v x => v = .bl x, fun _ h => h⟩
instance : Dat Str := ⟨fun _ _ v x => v = .str x, fun _ h => h⟩
instance : Dat Unit := ⟨fun _ _ v _ => v = .non, fun _ h => h⟩
instance {α β : Type} [Dat α] [Dat β] : Dat (α × β) where
  Is W H v x := ∃ p u w, v = .ref p ∧ ¬ W.M p ∧ H p = some (.tup [u, w]) ∧ Is W H u x.1 ∧ Is W H w x.2
  up e h := by
    obtain ⟨p, u, w, e1, n, e2, h1, h2⟩ := h
    exact ⟨p, u, w, e1, n, e p _ n e2, Dat.up e h1, Dat.up e h2⟩
instance {α : Type} [Dat α] : Dat (Option α) where
  Is W H v x := match x with
    | none => v = .non
    | some y => Is W H v y
  up e h := by
    rename_i x
    cases x with
    | none => exact h
    | some y => exact Dat.up (α := α) e h
theorem paired_up {α : Type} [Dat α] {W : Wld} {H H' : Hp} (e : Up W H H') : ∀ {us : List V} {xs : List α}, Paired (fun u x => Is W H u x) us xs → Paired (fun u x => Is W H' u x) us xs
  | _, _, .nil => .nil
  | _, _, .cons h t => .cons (Dat.up e h) (paired_up e t)
instance {α : Type} [Dat α] : Dat (List α) where
  Is W H v xs := ∃ p us, v = .ref p ∧ ¬ W.M p ∧ H p = some (.lst us) ∧ Paired (fun u x => Is W H u x) us xs
  up e h := by
    obtain ⟨p, us, e1, n, e2, h1⟩ := h
    exact ⟨p, us, e1, n, e p _ n e2, paired_up e h1⟩
/-- a Ratio of the class at C -/
structure Rt (C : Addr) where
  t : Int
  b : Int
def rfs (t b : Int) : List (Str × V) := putF "_bottom" (.int b) (putF "_top" (.int t) [])
instance {C : Addr} : Dat (Rt C) where
  Is W H v x := ∃ p dx, v = .ref p ∧ ¬ W.M p ∧ H p = some (.ins C dx (rfs x.t x.b))
  up e h := by
    obtain ⟨p, dx, e1, n, e2⟩ := h
    exact ⟨p, dx, e1, n, e p _ n e2⟩
/-- a value of any kind, as it is -/
structure AnyV where
  v : V
/-- arguments -/
class DArgs (A : Type) where
  Is : Wld → Hp → List V → A → Prop
  up : ∀ {W : Wld} {H H' : Hp} {v : List V} {x : A}, Up W H H' → Is W H v x → Is W H' v x
  n : Nat
  len : ∀ {W : Wld} {H : Hp} {v : List V} {x : A}, Is W H v x → v.length = n
structure Nil where
instance : DArgs Nil := ⟨fun _ _ vs _ => vs = [], fun _ h => h, 0, fun h => by rw [h] <;> rfl⟩
structure Cns (α A : Type) where
  h : α
  t : A
instance {α A : Type} [Dat α] [DArgs A] : DArgs (Cns α A) where
  Is W H vs a := ∃ v r, vs = v :: r ∧ Is W H v a.h ∧ DArgs.Is W H r a.t
  up e h := by
    obtain ⟨v, r, e1, h1, h2⟩ := h
    exact ⟨v, r, e1, Dat.up e h1, DArgs.up e h2⟩
  n := DArgs.n A + 1
  len h := by
    obtain ⟨v, r, e1, h1, h2⟩ := h
    rw [e1, List.length_cons, DArgs.len h2]

section
variable {α β γ A : Type} [Dat α] [Dat β] [Dat γ] [DArgs A]
def Ev (W : Wld) (te : TE) (σ : L2.St) (H : Hp) (P : α → Prop) : Prop :=
  ∀ H1, Up W H H1 → W.I H1 → ∀ Q : VK, (∀ v H2 x, Up W H1 H2 → W.I H2 → Is W H2 v x → P x → Q v H2) → te σ H1 Q
def EvT (W : Wld) (tt : TT) (σ : L2.St) (H : Hp) (P : Bool → Prop) : Prop :=
  ∀ H1, Up W H H1 → W.I H1 → ∀ Q : Bool → Hp → Prop, (∀ b H2, Up W H1 H2 → W.I H2 → P b → Q b H2) → tt σ H1 Q
def EvA (W : Wld) (ta : TA) (σ : L2.St) (H : Hp) (P : A → Prop) : Prop :=
  ∀ H1, Up W H H1 → W.I H1 → ∀ Q : List V → Hp → Prop, (∀ vs H2 a, Up W H1 H2 → W.I H2 → DArgs.Is W H2 vs a → P a → Q vs H2) → ta σ H1 Q
/-- e comes to data with P -/
def Dx (X : Cx) (W : Wld) (e : Expr) (σ : L2.St) (H : Hp) (P : α → Prop) : Prop := ∃ te, PE X e te ∧ Ev W te σ H P
def Tx (X : Cx) (W : Wld) (e : Expr) (σ : L2.St) (H : Hp) (P : Bool → Prop) : Prop := ∃ tt, PT X e tt ∧ EvT W tt σ H P
/-- .. within and, or -/
def Txw (X : Cx) (W : Wld) (e : Expr) (σ : L2.St) (H : Hp) (P : Bool → Prop) : Prop := ∃ tt, PW X e tt ∧ EvT W tt σ H P
def Ax (X : Cx) (W : Wld) (es : List Expr) (σ : L2.St) (H : Hp) (P : A → Prop) : Prop := ∃ ta, PA X es ta ∧ EvA W ta σ H P

variable {X : Cx} {W : Wld} {σ : L2.St} {H : Hp} {pos : Pos} {a b e : Expr} {es : List Expr}
theorem Dx.imp {P R : α → Prop} (h : Dx X W e σ H P) (i : ∀ x, P x → R x) : Dx X W e σ H R :=
  let ⟨te, pe, ev⟩ := h
  ⟨te, pe, fun H1 u hI Q q => ev H1 u hI Q fun v H2 x u2 i2 hx hp => q v H2 x u2 i2 hx (i x hp)⟩
theorem Dx.to {x y : α} (h : Dx X W e σ H (· = x)) (i : x = y) : Dx X W e σ H (· = y) := i ▸ h
theorem Dx.up {H' : Hp} {P : α → Prop} (h : Dx X W e σ H P) (u : Up W H H') : Dx X W e σ H' P :=
  let ⟨te, pe, ev⟩ := h
  ⟨te, pe, fun H1 u1 hI Q q => ev H1 (u.trans u1) hI Q q⟩
theorem Tx.imp {P R : Bool → Prop} (h : Tx X W e σ H P) (i : ∀ x, P x → R x) : Tx X W e σ H R :=
  let ⟨te, pe, ev⟩ := h
  ⟨te, pe, fun H1 u hI Q q => ev H1 u hI Q fun b H2 u2 i2 hp => q b H2 u2 i2 (i b hp)⟩
theorem Tx.to {x y : Bool} (h : Tx X W e σ H (· = x)) (i : x = y) : Tx X W e σ H (· = y) := i ▸ h

/-! ### names, constants -/
theorem dx_var (i : Nat) {nm : Str} {v : V} {x : α} (hv : Is W H v x) (hσ : σ[i]? = some (some v) := by rfl) (hN : X.N[i]? = some nm := by rfl)
    (hvis : Vis X.env.scope nm := by first | exact Or.inl rfl | exact Or.inr (Or.inl rfl) | exact Or.inr (Or.inr rfl)) (hd : (nm == ("__debug__" : Str)) = false := by decide) (hcd : (nm == ("__classdict__" : Str)) = false := by decide) :
    Dx X W (.Name nm pos) σ H (· = x) :=
  ⟨_, pe_var hN hvis hd hcd, fun H1 u hI Q q => ⟨v, hσ, q v H1 x (Up.refl _) hI (Dat.up u hv) rfl⟩⟩
theorem dx_int {i : Int} {j} : Dx X W (.Constant (.int i) j pos) σ H (fun x : Int => x = i) := ⟨_, pe_int, fun H1 _ hI Q q => q _ H1 i (Up.refl _) hI rfl rfl⟩
theorem dx_bl {i : Bool} {j} : Dx X W (.Constant (.bool i) j pos) σ H (fun x : Bool => x = i) := ⟨_, pe_bl, fun H1 _ hI Q q => q _ H1 i (Up.refl _) hI rfl rfl⟩
theorem dx_str {i : Str} {j} : Dx X W (.Constant (.str i) j pos) σ H (fun x : Str => x = i) := ⟨_, pe_str, fun H1 _ hI Q q => q _ H1 i (Up.refl _) hI rfl rfl⟩
theorem dx_non {j} : Dx X W (.Constant .none j pos) σ H (fun x : Unit => x = ()) := ⟨_, pe_non, fun H1 _ hI Q q => q _ H1 () (Up.refl _) hI rfl rfl⟩
/-- None as no value -/
theorem dx_none {j} : Dx X W (.Constant .none j pos) σ H (fun x : Option α => x = none) := ⟨_, pe_non, fun H1 _ hI Q q => q _ H1 none (Up.refl _) hI rfl rfl⟩
theorem dx_some {x : α} (h : Dx X W e σ H (· = x)) : Dx X W e σ H (fun y : Option α => y = some x) :=
  let ⟨te, pe, ev⟩ := h
  ⟨te, pe, fun H1 u hI Q q => ev H1 u hI Q fun v H2 y u2 i2 hx hp => q v H2 (some y) u2 i2 hx (by rw [hp])⟩

/-! ### operators -/
theorem dx_op {op : Operator} {r : R2} {P : α → Prop} {R : β → Prop} {S : γ → Prop} (ho : OpR X (binaryOp op) r) (ha : Dx X W a σ H P) (hb : Dx X W b σ H R)
    (hr : ∀ u v H1 x y (Q : VK), Up W H H1 → W.I H1 → Is W H1 u x → Is W H1 v y → P x → R y → (∀ w H2 z, Up W H1 H2 → W.I H2 → Is W H2 w z → S z → Q w H2) → r u v H1 Q) :
    Dx X W (.BinOp a op b pos) σ H S := by
  obtain ⟨ta, pa, va⟩ := ha
  obtain ⟨tb, pb, vb⟩ := hb
  refine ⟨_, pe_op ho pa pb, fun H1 u hI Q q => va H1 u hI _ fun v H2 x u2 i2 hx px => vb H2 (u.trans u2) i2 _ fun w H3 y u3 i3 hy py => ?_⟩
  exact hr v w H3 x y Q ((u.trans u2).trans u3) i3 (Dat.up u3 hx) hy px py fun w' H4 z u4 i4 hz sz => q w' H4 z ((u2.trans u3).trans u4) i4 hz sz
theorem dx_opI {op : Operator} {C : Int → Int → Prop} {g : Int → Int → Int} {i j : Int} (ho : OpR X (binaryOp op) (rI C fun i j => .int (g i j))) (ha : Dx X W a σ H (· = i)) (hb : Dx X W b σ H (· = j)) (hc : C i j) :
    Dx X W (.BinOp a op b pos) σ H (· = g i j) := dx_op ho ha hb fun u v H1 x y Q _ hI hx hy px py q => by
  subst px; subst py
  exact ⟨_, _, hx, hy, hc, q _ H1 _ (Up.refl _) hI rfl rfl⟩
theorem dx_opI0 {op : Operator} {g : Int → Int → Int} {i j : Int} (ho : OpR X (binaryOp op) (rI0 fun i j => .int (g i j))) (ha : Dx X W a σ H (· = i)) (hb : Dx X W b σ H (· = j)) :
    Dx X W (.BinOp a op b pos) σ H (· = g i j) := dx_op ho ha hb fun u v H1 x y Q _ hI hx hy px py q => by
  subst px; subst py
  exact ⟨_, _, hx, hy, q _ H1 _ (Up.refl _) hI rfl rfl⟩
theorem dx_add {i j : Int} (ha : Dx X W a σ H (· = i)) (hb : Dx X W b σ H (· = j)) : Dx X W (.BinOp a .Add b pos) σ H (· = i + j) := dx_opI0 op_add ha hb
theorem dx_sub {i j : Int} (ha : Dx X W a σ H (· = i)) (hb : Dx X W b σ H (· = j)) : Dx X W (.BinOp a .Sub b pos) σ H (· = i - j) := dx_opI0 op_sub ha hb
theorem dx_mul {i j : Int} (ha : Dx X W a σ H (· = i)) (hb : Dx X W b σ H (· = j)) (hc : CMulW i j) : Dx X W (.BinOp a .Mult b pos) σ H (· = i * j) := dx_opI (g := fun i j => i * j) op_mulW ha hb hc
theorem dx_mod {i j : Int} (ha : Dx X W a σ H (· = i)) (hb : Dx X W b σ H (· = j)) (hc : j ≠ 0) : Dx X W (.BinOp a .Mod b pos) σ H (· = i.fmod j) := dx_opI (g := fun i j => i.fmod j) op_modN ha hb hc
/-! with P -/
theorem dx_addP {P R : Int → Prop} (ha : Dx X W a σ H P) (hb : Dx X W b σ H R) : Dx X W (.BinOp a .Add b pos) σ H (fun z => ∃ i j, P i ∧ R j ∧ z = i + j) := dx_op op_add ha hb fun u v H1 x y Q _ hI hx hy px py q =>
  ⟨_, _, hx, hy, q _ H1 _ (Up.refl _) hI rfl ⟨x, y, px, py, rfl⟩⟩
theorem dx_subP {P R : Int → Prop} (ha : Dx X W a σ H P) (hb : Dx X W b σ H R) : Dx X W (.BinOp a .Sub b pos) σ H (fun z => ∃ i j, P i ∧ R j ∧ z = i - j) := dx_op op_sub ha hb fun u v H1 x y Q _ hI hx hy px py q =>
  ⟨_, _, hx, hy, q _ H1 _ (Up.refl _) hI rfl ⟨x, y, px, py, rfl⟩⟩

/-! ### displays -/
theorem ax_nil : Ax X W [] σ H (fun x : Nil => x = ⟨⟩) := ⟨_, pa_nil, fun H1 _ hI Q q => q [] H1 ⟨⟩ (Up.refl _) hI rfl rfl⟩
theorem ax_consP {P : α → Prop} {R : A → Prop} (h : Dx X W e σ H P) (hr : Ax X W es σ H R) (hs : starEach (e :: es) X.env = (false, eval e X.env) :: starEach es X.env := by rfl) :
    Ax X W (e :: es) σ H (fun z : Cns α A => P z.h ∧ R z.t) := by
  obtain ⟨te, pe, ev⟩ := h
  obtain ⟨ta, pa, va⟩ := hr
  refine ⟨_, pa_cons pe pa hs, fun H1 u hI Q q => ev H1 u hI _ fun v H2 x u2 i2 hx px => va H2 (u.trans u2) i2 _ fun vs H3 r u3 i3 hr pr => ?_⟩
  exact q (v :: vs) H3 ⟨x, r⟩ (u2.trans u3) i3 ⟨v, vs, rfl, Dat.up u3 hx, hr⟩ ⟨px, pr⟩
theorem ax_cons {x : α} {r : A} (h : Dx X W e σ H (· = x)) (hr : Ax X W es σ H (· = r)) (hs : starEach (e :: es) X.env = (false, eval e X.env) :: starEach es X.env := by rfl) :
    Ax X W (e :: es) σ H (· = Cns.mk x r) := by
  obtain ⟨ta, pa, ev⟩ := ax_consP h hr hs
  exact ⟨ta, pa, fun H1 u hI Q q => ev H1 u hI Q fun vs H2 a u2 i2 ha pa => q vs H2 a u2 i2 ha (by obtain ⟨p1, p2⟩ := pa; cases a; subst p1; subst p2; rfl)⟩
theorem dx_tupP {P : α → Prop} {R : β → Prop} {k} (ha : Dx X W a σ H P) (hb : Dx X W b σ H R) (hs : starEach (a :: [b]) X.env = (false, eval a X.env) :: starEach [b] X.env := by rfl) (hs1 : starEach (b :: []) X.env = (false, eval b X.env) :: starEach [] X.env := by rfl) :
    Dx X W (.Tuple [a, b] k pos) σ H (fun z : α × β => P z.1 ∧ R z.2) := by
  obtain ⟨ta, pa, va⟩ := ha
  obtain ⟨tb, pb, vb⟩ := hb
  refine ⟨_, pe_tup (pa_cons pa (pa_cons pb pa_nil hs1) hs), fun H1 u hI Q q => va H1 u hI _ fun v H2 x u2 i2 hx px => vb H2 (u.trans u2) i2 _ fun w H3 y u3 i3 hy py => ⟨by show 2 ≤ sizeLine; decide, fun p hp => ?_⟩⟩
  exact q _ _ (x, y) ((u2.trans u3).trans (Up.new hp)) (I_new i3 hp) ⟨p, v, w, rfl, not_M i3 hp, upd_same, Dat.up (Up.new hp) (Dat.up u3 hx), Dat.up (Up.new hp) hy⟩ ⟨px, py⟩
theorem dx_tup {x : α} {y : β} {k} (ha : Dx X W a σ H (· = x)) (hb : Dx X W b σ H (· = y)) (hs : starEach (a :: [b]) X.env = (false, eval a X.env) :: starEach [b] X.env := by rfl) (hs1 : starEach (b :: []) X.env = (false, eval b X.env) :: starEach [] X.env := by rfl) :
    Dx X W (.Tuple [a, b] k pos) σ H (· = (x, y)) := (dx_tupP ha hb hs hs1).imp fun z pz => by obtain ⟨p1, p2⟩ := pz; cases z; subst p1; subst p2; rfl
/-- items of one kind -/
def Lx (X : Cx) (W : Wld) (es : List Expr) (σ : L2.St) (H : Hp) (P : List α → Prop) : Prop := ∃ ta, PA X es ta ∧ ∀ H1, Up W H H1 → W.I H1 → ∀ Q : List V → Hp → Prop, (∀ vs H2 xs, Up W H1 H2 → W.I H2 → Paired (fun u x => Is W H2 u x) vs xs → P xs → Q vs H2) → ta σ H1 Q
theorem lx_nil : Lx (α := α) X W [] σ H (· = []) := ⟨_, pa_nil, fun H1 _ hI Q q => q [] H1 [] (Up.refl _) hI .nil rfl⟩
theorem lx_consP {P : α → Prop} {R : List α → Prop} (h : Dx X W e σ H P) (hr : Lx X W es σ H R) (hs : starEach (e :: es) X.env = (false, eval e X.env) :: starEach es X.env := by rfl) : Lx X W (e :: es) σ H (fun z => ∃ x r, P x ∧ R r ∧ z = x :: r) := by
  obtain ⟨te, pe, ev⟩ := h
  obtain ⟨ta, pa, va⟩ := hr
  refine ⟨_, pa_cons pe pa hs, fun H1 u hI Q q => ev H1 u hI _ fun v H2 x u2 i2 hx px => va H2 (u.trans u2) i2 _ fun vs H3 r u3 i3 hr pr => ?_⟩
  exact q (v :: vs) H3 (x :: r) (u2.trans u3) i3 (.cons (Dat.up u3 hx) hr) ⟨x, r, px, pr, rfl⟩
theorem lx_cons {x : α} {r : List α} (h : Dx X W e σ H (· = x)) (hr : Lx X W es σ H (· = r)) (hs : starEach (e :: es) X.env = (false, eval e X.env) :: starEach es X.env := by rfl) : Lx X W (e :: es) σ H (· = x :: r) := by
  obtain ⟨ta, pa, ev⟩ := lx_consP h hr hs
  exact ⟨ta, pa, fun H1 u hI Q q => ev H1 u hI Q fun vs H2 a u2 i2 ha pa => q vs H2 a u2 i2 ha (by obtain ⟨x', r', p1, p2, e⟩ := pa; rw [e, p1, p2])⟩
theorem paired_len {F : V → α → Prop} : ∀ {us : List V} {xs : List α}, Paired F us xs → us.length = xs.length
  | _, _, .nil => rfl
  | _, _, .cons _ t => congrArg Nat.succ (paired_len t)
theorem dx_lstP {P : List α → Prop} (h : Lx X W es σ H P) (hl : ∀ xs, P xs → xs.length ≤ 100000) : Dx X W (.List es pos) σ H P := by
  obtain ⟨ta, pa, va⟩ := h
  refine ⟨_, pe_lst pa, fun H1 u hI Q q => va H1 u hI _ fun vs H2 xs u2 i2 hx px => ⟨Nat.le_trans (by rw [paired_len hx]; exact hl xs px) (by decide), fun p hp => ?_⟩⟩
  exact q _ _ xs (u2.trans (Up.new hp)) (I_new i2 hp) ⟨p, vs, rfl, not_M i2 hp, upd_same, paired_up (Up.new hp) hx⟩ px
theorem dx_lst {xs : List α} (h : Lx X W es σ H (· = xs)) (hl : xs.length ≤ 100000) : Dx X W (.List es pos) σ H (· = xs) := dx_lstP h fun ys e => e ▸ hl

/-! ### items -/
theorem dx_ix0 {x : α} {y : β} {i : Expr} (h : Dx X W a σ H (· = (x, y))) (hi : Dx X W i σ H (fun z : Int => z = 0)) (hs : PlainIx i := by exact fun _ _ => rfl) : Dx X W (.Subscript a i pos) σ H (· = x) := by
  obtain ⟨ta, pa, va⟩ := h
  obtain ⟨ti, pi, vi⟩ := hi
  refine ⟨_, pe_ix ix_tup pa pi hs, fun H1 u hI Q q => va H1 u hI _ fun v H2 z u2 i2 hz pz => vi H2 (u.trans u2) i2 _ fun w H3 n u3 i3 hn pn => ?_⟩
  subst pz; subst pn
  obtain ⟨p, v1, v2, rfl, n, e2, h1, h2⟩ := Dat.up u3 hz
  cases hn
  exact ⟨p, _, 0, v1, rfl, rfl, SqT.of e2, rfl, q _ H3 x (u2.trans u3) i3 h1 rfl⟩
theorem dx_ix1 {x : α} {y : β} {i : Expr} (h : Dx X W a σ H (· = (x, y))) (hi : Dx X W i σ H (fun z : Int => z = 1)) (hs : PlainIx i := by exact fun _ _ => rfl) : Dx X W (.Subscript a i pos) σ H (· = y) := by
  obtain ⟨ta, pa, va⟩ := h
  obtain ⟨ti, pi, vi⟩ := hi
  refine ⟨_, pe_ix ix_tup pa pi hs, fun H1 u hI Q q => va H1 u hI _ fun v H2 z u2 i2 hz pz => vi H2 (u.trans u2) i2 _ fun w H3 n u3 i3 hn pn => ?_⟩
  subst pz; subst pn
  obtain ⟨p, v1, v2, rfl, n, e2, h1, h2⟩ := Dat.up u3 hz
  cases hn
  exact ⟨p, _, 1, v2, rfl, rfl, SqT.of e2, rfl, q _ H3 y (u2.trans u3) i3 h2 rfl⟩
theorem paired_get {F : V → α → Prop} : ∀ {us : List V} {xs : List α} {i : Nat} {x : α}, Paired F us xs → xs[i]? = some x → ∃ u, us[i]? = some u ∧ F u x
  | _, _, _, _, .nil, e => by simp at e
  | _, _, 0, _, .cons r _, e => by simp at e; subst e; exact ⟨_, rfl, r⟩
  | _, _, i + 1, x, .cons _ t, e => by
    obtain ⟨u, h1, h2⟩ := paired_get (i := i) (x := x) t (by simpa using e)
    exact ⟨u, by simpa using h1, h2⟩
theorem paired_getL {F : V → α → Prop} : ∀ {us : List V} {xs : List α} {i : Nat} {u : V}, Paired F us xs → us[i]? = some u → ∃ x, xs[i]? = some x ∧ F u x
  | _, _, _, _, .nil, e => by simp at e
  | _, _, 0, _, .cons r _, e => by simp at e; subst e; exact ⟨_, rfl, r⟩
  | _, _, i + 1, x, .cons _ t, e => by
    obtain ⟨u, h1, h2⟩ := paired_getL (i := i) (u := x) t (by simpa using e)
    exact ⟨u, by simpa using h1, h2⟩
theorem dx_ixLP {xs : List α} {i : Expr} {P : Int → Prop} (h : Dx X W a σ H (· = xs)) (hi : Dx X W i σ H P) (hb : ∀ n, P n → 0 ≤ n ∧ n < xs.length) (hs : PlainIx i := by exact fun _ _ => rfl) : Dx X W (.Subscript a i pos) σ H (fun x => ∃ n : Nat, P (n : Int) ∧ xs[n]? = some x) := by
  obtain ⟨ta, pa, va⟩ := h
  obtain ⟨ti, pi, vi⟩ := hi
  refine ⟨_, pe_ix ix_list pa pi hs, fun H1 u hI Q q => va H1 u hI _ fun v H2 z u2 i2 hz pz => vi H2 (u.trans u2) i2 _ fun w H3 n u3 i3 hn pn => ?_⟩
  subst pz
  obtain ⟨p, us, rfl, nm, e2, h1⟩ := Dat.up u3 hz
  cases hn
  obtain ⟨b0, b1⟩ := hb n pn
  obtain ⟨m, rfl⟩ : ∃ m : Nat, n = (m : Int) := ⟨n.toNat, by omega⟩
  have hm : m < z.length := by omega
  obtain ⟨w, hw, hx⟩ := paired_get h1 (List.getElem?_eq_getElem hm)
  exact ⟨p, us, m, w, rfl, rfl, SqL.of e2, atI_nat hw, q _ H3 _ (u2.trans u3) i3 hx ⟨m, pn, List.getElem?_eq_getElem hm⟩⟩
theorem dx_ixL {xs : List α} {x : α} {i : Expr} {n : Nat} (h : Dx X W a σ H (· = xs)) (hi : Dx X W i σ H (fun z : Int => z = n)) (hx : xs[n]? = some x) (hs : PlainIx i := by exact fun _ _ => rfl) : Dx X W (.Subscript a i pos) σ H (· = x) :=
  (dx_ixLP h hi (by rintro m rfl; have := (List.getElem?_eq_some_iff.mp hx).1; omega) hs).imp fun y hy => by
    obtain ⟨m, e, g⟩ := hy
    have : m = n := by omega
    subst this
    rw [hx] at g
    exact (Option.some.inj g).symm
end
end Inn

set_option Elab.async false
set_option linter.all false
set_option maxRecDepth 100000
set_option maxHeartbeats 4000000
namespace Inn
open PySem L2
open Dat (Is)
section
variable {α β γ A : Type} [Dat α] [Dat β] [Dat γ] [DArgs A]
variable {X : Cx} {W : Wld} {σ : L2.St} {H : Hp} {pos : Pos} {a b c e : Expr} {es rest : List Expr}

/-! ### comparisons and tests -/
theorem ev_cmpI {op : CmpOp} {g : Int → Int → Bool} {i j : Int} {ta tb : TE} (va : Ev W ta σ H (· = i)) (vb : Ev W tb σ H (· = j)) : Ev W (tOp (rI0 fun i j => .bl (g i j)) ta tb) σ H (· = g i j) :=
  fun H1 u hI Q q => va H1 u hI _ fun v H2 x u2 i2 hx px => vb H2 (u.trans u2) i2 _ fun w H3 y u3 i3 hy py => by
    subst px; subst py
    exact ⟨_, _, hx, hy, q _ H3 _ (u2.trans u3) i3 rfl rfl⟩
theorem ev_test {te : TE} {P : Bool → Prop} (h : Ev W te σ H P) : EvT W (tTest te) σ H P := fun H1 u hI Q q => h H1 u hI _ fun v H2 x u2 i2 hx px => ⟨x, hx, q x H2 u2 i2 px⟩
theorem ev_B {te : TE} {P : Bool → Prop} (h : Ev W te σ H P) : EvT W (tB te) σ H P := fun H1 u hI Q q => h H1 u hI _ fun v H2 x u2 i2 hx px => ⟨x, hx, q x H2 u2 i2 px⟩
theorem tx_val {P : Bool → Prop} (h : Dx X W e σ H P) (he : ∀ whole, isTrue e X.env whole = (do let v ← whole; standAt e.pos; holding [v] (truthy v)) := by intro _; rfl) : Tx X W e σ H P :=
  let ⟨_, pe, ev⟩ := h
  ⟨_, pt_val pe he, ev_B ev⟩
section
variable {i j : Int}
theorem tx_lt (ha : Dx X W a σ H (· = i)) (hb : Dx X W b σ H (· = j)) : Tx X W (.Compare a [.Lt] [b] pos) σ H (· = decide (i < j)) := let ⟨_, pa, va⟩ := ha; let ⟨_, pb, vb⟩ := hb; ⟨_, pt_cmpR op_lt pa pb (nomark _), ev_test (ev_cmpI (op := .Lt) va vb)⟩
theorem tx_le (ha : Dx X W a σ H (· = i)) (hb : Dx X W b σ H (· = j)) : Tx X W (.Compare a [.LtE] [b] pos) σ H (· = decide (i ≤ j)) := let ⟨_, pa, va⟩ := ha; let ⟨_, pb, vb⟩ := hb; ⟨_, pt_cmpR op_le pa pb (nomark _), ev_test (ev_cmpI (op := .Lt) va vb)⟩
theorem tx_gt (ha : Dx X W a σ H (· = i)) (hb : Dx X W b σ H (· = j)) : Tx X W (.Compare a [.Gt] [b] pos) σ H (· = decide (j < i)) := let ⟨_, pa, va⟩ := ha; let ⟨_, pb, vb⟩ := hb; ⟨_, pt_cmpR op_gt pa pb (nomark _), ev_test (ev_cmpI (op := .Lt) va vb)⟩
theorem tx_ge (ha : Dx X W a σ H (· = i)) (hb : Dx X W b σ H (· = j)) : Tx X W (.Compare a [.GtE] [b] pos) σ H (· = decide (j ≤ i)) := let ⟨_, pa, va⟩ := ha; let ⟨_, pb, vb⟩ := hb; ⟨_, pt_cmpR op_ge pa pb (nomark _), ev_test (ev_cmpI (op := .Lt) va vb)⟩
theorem dx_lt (ha : Dx X W a σ H (· = i)) (hb : Dx X W b σ H (· = j)) : Dx X W (.Compare a [.Lt] [b] pos) σ H (· = decide (i < j)) := let ⟨_, pa, va⟩ := ha; let ⟨_, pb, vb⟩ := hb; ⟨_, pe_cmpR op_lt pa pb (nomark _), ev_cmpI (op := .Lt) va vb⟩
theorem dx_le (ha : Dx X W a σ H (· = i)) (hb : Dx X W b σ H (· = j)) : Dx X W (.Compare a [.LtE] [b] pos) σ H (· = decide (i ≤ j)) := let ⟨_, pa, va⟩ := ha; let ⟨_, pb, vb⟩ := hb; ⟨_, pe_cmpR op_le pa pb (nomark _), ev_cmpI (op := .Lt) va vb⟩
theorem dx_gt (ha : Dx X W a σ H (· = i)) (hb : Dx X W b σ H (· = j)) : Dx X W (.Compare a [.Gt] [b] pos) σ H (· = decide (j < i)) := let ⟨_, pa, va⟩ := ha; let ⟨_, pb, vb⟩ := hb; ⟨_, pe_cmpR op_gt pa pb (nomark _), ev_cmpI (op := .Lt) va vb⟩
theorem dx_ge (ha : Dx X W a σ H (· = i)) (hb : Dx X W b σ H (· = j)) : Dx X W (.Compare a [.GtE] [b] pos) σ H (· = decide (j ≤ i)) := let ⟨_, pa, va⟩ := ha; let ⟨_, pb, vb⟩ := hb; ⟨_, pe_cmpR op_ge pa pb (nomark _), ev_cmpI (op := .Lt) va vb⟩
end
/-- flat kinds of which == tells equality -/
class Flat (α : Type) [Dat α] [DecidableEq α] where
  v : α → V
  is : ∀ {W : Wld} {H : Hp} {u : V} {x : α}, Is W H u x → u = v x
  sc : ∀ x y : α, scal (v x) (v y) = true
  eq : ∀ x y : α, decide (v x = v y) = decide (x = y)
instance : Flat Int := ⟨V.int, fun h => h, fun _ _ => rfl, fun x y => by simp⟩
instance : Flat Bool := ⟨V.bl, fun h => h, fun _ _ => rfl, fun x y => by simp⟩
instance : Flat Str := ⟨V.str, fun h => h, fun _ _ => rfl, fun x y => by simp⟩
theorem ev_eqF [DecidableEq α] [Flat α] {x y : α} {ta tb : TE} (va : Ev W ta σ H (· = x)) (vb : Ev W tb σ H (· = y)) : Ev W (tOp rEq ta tb) σ H (· = decide (x = y)) :=
  fun H1 u hI Q q => va H1 u hI _ fun v H2 x' u2 i2 hx px => vb H2 (u.trans u2) i2 _ fun w H3 y' u3 i3 hy py => by
    subst px; subst py
    rw [Flat.is hx, Flat.is hy]
    exact ⟨Flat.sc _ _, by rw [Flat.eq]; exact q _ H3 _ (u2.trans u3) i3 rfl rfl⟩
theorem ev_neF [DecidableEq α] [Flat α] {x y : α} {ta tb : TE} (va : Ev W ta σ H (· = x)) (vb : Ev W tb σ H (· = y)) : Ev W (tOp rNe ta tb) σ H (· = !decide (x = y)) :=
  fun H1 u hI Q q => va H1 u hI _ fun v H2 x' u2 i2 hx px => vb H2 (u.trans u2) i2 _ fun w H3 y' u3 i3 hy py => by
    subst px; subst py
    rw [Flat.is hx, Flat.is hy]
    exact ⟨Flat.sc _ _, by rw [Flat.eq]; exact q _ H3 _ (u2.trans u3) i3 rfl rfl⟩
section
variable [DecidableEq α] [Flat α] {x y : α}
theorem tx_eq (ha : Dx X W a σ H (· = x)) (hb : Dx X W b σ H (· = y)) : Tx X W (.Compare a [.Eq] [b] pos) σ H (· = decide (x = y)) := let ⟨_, pa, va⟩ := ha; let ⟨_, pb, vb⟩ := hb; ⟨_, pt_cmpR op_eq pa pb (nomark _), ev_test (ev_eqF va vb)⟩
theorem tx_ne (ha : Dx X W a σ H (· = x)) (hb : Dx X W b σ H (· = y)) : Tx X W (.Compare a [.NotEq] [b] pos) σ H (· = !decide (x = y)) := let ⟨_, pa, va⟩ := ha; let ⟨_, pb, vb⟩ := hb; ⟨_, pt_cmpR op_ne pa pb (nomark _), ev_test (ev_neF va vb)⟩
theorem dx_eq (ha : Dx X W a σ H (· = x)) (hb : Dx X W b σ H (· = y)) : Dx X W (.Compare a [.Eq] [b] pos) σ H (· = decide (x = y)) := let ⟨_, pa, va⟩ := ha; let ⟨_, pb, vb⟩ := hb; ⟨_, pe_cmpR op_eq pa pb (nomark _), ev_eqF va vb⟩
theorem dx_ne (ha : Dx X W a σ H (· = x)) (hb : Dx X W b σ H (· = y)) : Dx X W (.Compare a [.NotEq] [b] pos) σ H (· = !decide (x = y)) := let ⟨_, pa, va⟩ := ha; let ⟨_, pb, vb⟩ := hb; ⟨_, pe_cmpR op_ne pa pb (nomark _), ev_neF va vb⟩
end
/-- kinds that == compares item by item -/
class PyD (α : Type) [Dat α] [DecidableEq α] where
  py : α → PyData
  dp : ∀ {K : PySem.W.Frag} {W : Wld} {H : Hp} {u : V} {x : α}, Is W H u x → Dp K H u (py x)
  lay : ∀ x : α, (py x).canLay0 = true
  dep : Nat
  le : ∀ x : α, (py x).depth ≤ dep
  eq : ∀ x y : α, PyData.eqv (py x) (py y) = decide (x = y)
instance : PyD Int := ⟨.int, fun h => by cases h; exact .int _, fun _ => rfl, 0, fun _ => Nat.le_refl _, fun x y => by unfold PyData.eqv; exact Bool.beq_eq_decide_eq x y⟩
instance : PyD Bool := ⟨.bool, fun h => by cases h; exact .bl _, fun _ => rfl, 0, fun _ => Nat.le_refl _, fun x y => by unfold PyData.eqv; exact Bool.beq_eq_decide_eq x y⟩
instance {α β : Type} [Dat α] [Dat β] [DecidableEq α] [DecidableEq β] [PyD α] [PyD β] : PyD (α × β) where
  py x := .tuple [PyD.py x.1, PyD.py x.2]
  dp h := by
    obtain ⟨p, u, w, rfl, n, e, h1, h2⟩ := h
    exact .tup (SqT.of e) (.cons (PyD.dp h1) (.cons (PyD.dp h2) .nil))
  lay x := by
    show (PyData.canLay0 _ && (PyData.canLay0 _ && true)) = true
    rw [PyD.lay, PyD.lay]
    rfl
  dep := max (PyD.dep α) (PyD.dep β) + 1
  le x := by
    have h1 := PyD.le x.1
    have h2 := PyD.le x.2
    show max (PyData.depth _) (max (PyData.depth _) 0) + 1 ≤ _
    omega
  eq x y := by
    show (PyData.eqv _ _ && (PyData.eqv _ _ && true)) = _
    rw [PyD.eq, PyD.eq, Bool.and_true]
    obtain ⟨x1, x2⟩ := x
    obtain ⟨y1, y2⟩ := y
    by_cases h1 : x1 = y1 <;> by_cases h2 : x2 = y2 <;> simp [h1, h2]
theorem dpAll_of {K : PySem.W.Frag} {H : Hp} [DecidableEq α] [PyD α] : ∀ {us : List V} {xs : List α}, Paired (fun u x => Is W H u x) us xs → DpAll K H us (xs.map PyD.py)
  | _, _, .nil => .nil
  | _, _, .cons h t => .cons (PyD.dp h) (dpAll_of t)
theorem eqvAll_of [DecidableEq α] [PyD α] : ∀ (xs ys : List α), PyData.eqvAll (xs.map PyD.py) (ys.map PyD.py) = decide (xs = ys)
  | [], [] => by simp [PyData.eqvAll]
  | [], _ :: _ => by simp [PyData.eqvAll]
  | _ :: _, [] => by simp [PyData.eqvAll]
  | x :: xs, y :: ys => by
    show (PyData.eqv _ _ && PyData.eqvAll _ _) = _
    rw [PyD.eq, eqvAll_of xs ys]
    by_cases h1 : x = y <;> by_cases h2 : xs = ys <;> simp [h1, h2]
theorem layAll_of [DecidableEq α] [PyD α] : ∀ (xs : List α), PyData.canLayAll0 (xs.map PyD.py) = true
  | [] => rfl
  | x :: xs => by
    show (PyData.canLay0 _ && PyData.canLayAll0 _) = true
    rw [PyD.lay, layAll_of xs]
    rfl
theorem depAll_of [DecidableEq α] [PyD α] : ∀ (xs : List α), PyData.depthAll (xs.map PyD.py) ≤ PyD.dep α
  | [] => Nat.zero_le _
  | x :: xs => by
    have h1 := PyD.le x
    have h2 := depAll_of xs
    show max (PyData.depth _) (PyData.depthAll _) ≤ _
    omega
instance {α : Type} [Dat α] [DecidableEq α] [PyD α] : PyD (List α) where
  py xs := .list (xs.map PyD.py)
  dp h := by
    obtain ⟨p, us, rfl, n, e, h1⟩ := h
    exact .lst (SqL.of e) (dpAll_of h1)
  lay xs := layAll_of xs
  dep := PyD.dep α + 1
  le xs := Nat.succ_le_succ (depAll_of xs)
  eq xs ys := eqvAll_of xs ys
theorem shaped_of [DecidableEq α] [PyD α] (hd : PyD.dep α ≤ 64) (x : α) : SeqAt.shaped (PyD.py x) = true := by
  unfold SeqAt.shaped
  rw [PyD.lay, decide_eq_true (Nat.le_trans (PyD.le x) hd)]
  rfl
theorem ev_eqD [DecidableEq α] [PyD α] {x y : α} {K : PySem.W.Frag} {ta tb : TE} (va : Ev W ta σ H (· = x)) (vb : Ev W tb σ H (· = y)) (hd : PyD.dep α ≤ 64) : Ev W (tOp (rEqD K) ta tb) σ H (· = decide (x = y)) :=
  fun H1 u hI Q q => va H1 u hI _ fun v H2 x' u2 i2 hx px => vb H2 (u.trans u2) i2 _ fun w H3 y' u3 i3 hy py => by
    subst px; subst py
    exact ⟨_, _, PyD.dp (Dat.up u3 hx), PyD.dp hy, shaped_of hd _, shaped_of hd _, by rw [PyD.eq]; exact q _ H3 _ (u2.trans u3) i3 rfl rfl⟩
theorem ev_neD [DecidableEq α] [PyD α] {x y : α} {K : PySem.W.Frag} {ta tb : TE} (va : Ev W ta σ H (· = x)) (vb : Ev W tb σ H (· = y)) (hd : PyD.dep α ≤ 64) : Ev W (tOp (rNeD K) ta tb) σ H (· = !decide (x = y)) :=
  fun H1 u hI Q q => va H1 u hI _ fun v H2 x' u2 i2 hx px => vb H2 (u.trans u2) i2 _ fun w H3 y' u3 i3 hy py => by
    subst px; subst py
    exact ⟨_, _, PyD.dp (Dat.up u3 hx), PyD.dp hy, shaped_of hd _, shaped_of hd _, by rw [PyD.eq]; exact q _ H3 _ (u2.trans u3) i3 rfl rfl⟩
section
variable [DecidableEq α] [PyD α] {x y : α}
theorem tx_eqD (hu : X.A.units + 64 < cLine) (ha : Dx X W a σ H (· = x)) (hb : Dx X W b σ H (· = y)) (hd : PyD.dep α ≤ 64 := by decide) : Tx X W (.Compare a [.Eq] [b] pos) σ H (· = decide (x = y)) := let ⟨_, pa, va⟩ := ha; let ⟨_, pb, vb⟩ := hb; ⟨_, pt_cmpR (op_eqD hu) pa pb (nomark _), ev_test (ev_eqD va vb hd)⟩
theorem tx_neD (hu : X.A.units + 64 < cLine) (ha : Dx X W a σ H (· = x)) (hb : Dx X W b σ H (· = y)) (hd : PyD.dep α ≤ 64 := by decide) : Tx X W (.Compare a [.NotEq] [b] pos) σ H (· = !decide (x = y)) := let ⟨_, pa, va⟩ := ha; let ⟨_, pb, vb⟩ := hb; ⟨_, pt_cmpR (op_neD hu) pa pb (nomark _), ev_test (ev_neD va vb hd)⟩
theorem dx_eqD (hu : X.A.units + 64 < cLine) (ha : Dx X W a σ H (· = x)) (hb : Dx X W b σ H (· = y)) (hd : PyD.dep α ≤ 64 := by decide) : Dx X W (.Compare a [.Eq] [b] pos) σ H (· = decide (x = y)) := let ⟨_, pa, va⟩ := ha; let ⟨_, pb, vb⟩ := hb; ⟨_, pe_cmpR (op_eqD hu) pa pb (nomark _), ev_eqD va vb hd⟩
end
/-! and, or, not -/
theorem tx_not {k : Bool} (h : Tx X W a σ H (· = k)) : Tx X W (.UnaryOp .Not a pos) σ H (· = !k) := let ⟨_, p, v⟩ := h; ⟨_, pt_not p, fun H1 u hI Q q => v H1 u hI _ fun b H2 u2 i2 hb => q (!b) H2 u2 i2 (by rw [hb])⟩
theorem txw_and1 {P : Bool → Prop} (h : Tx X W a σ H P) : Txw X W (.BoolOp .And [a] pos) σ H P := let ⟨_, p, v⟩ := h; ⟨_, pw_and1 p, v⟩
theorem txw_or1 {P : Bool → Prop} (h : Tx X W a σ H P) : Txw X W (.BoolOp .Or [a] pos) σ H P := let ⟨_, p, v⟩ := h; ⟨_, pw_or1 p, v⟩
/-- what is never asked need be nothing -/
theorem txw_and {k l : Bool} (h : Tx X W a σ H (· = k)) (h2 : k = true → Txw X W (.BoolOp .And (b :: rest) pos) σ H (· = l)) (hp : k = false → ∃ t, PW X (.BoolOp .And (b :: rest) pos) t) : Txw X W (.BoolOp .And (a :: b :: rest) pos) σ H (· = (k && l)) := by
  obtain ⟨_, p, v⟩ := h
  cases k with
  | true =>
    obtain ⟨_, p2, v2⟩ := h2 rfl
    exact ⟨_, pw_and p p2, fun H1 u hI Q q => v H1 u hI _ fun b' H2 u2 i2 hb => by
      subst hb
      exact v2 H2 (u.trans u2) i2 Q fun b3 H3 u3 i3 hb3 => q b3 H3 (u2.trans u3) i3 (by rw [hb3]; rfl)⟩
  | false =>
    obtain ⟨_, p2⟩ := hp rfl
    exact ⟨_, pw_and p p2, fun H1 u hI Q q => v H1 u hI _ fun b' H2 u2 i2 hb => by
      subst hb
      exact q false H2 u2 i2 rfl⟩
theorem txw_or {k l : Bool} (h : Tx X W a σ H (· = k)) (h2 : k = false → Txw X W (.BoolOp .Or (b :: rest) pos) σ H (· = l)) (hp : k = true → ∃ t, PW X (.BoolOp .Or (b :: rest) pos) t) : Txw X W (.BoolOp .Or (a :: b :: rest) pos) σ H (· = (k || l)) := by
  obtain ⟨_, p, v⟩ := h
  cases k with
  | false =>
    obtain ⟨_, p2, v2⟩ := h2 rfl
    exact ⟨_, pw_or p p2, fun H1 u hI Q q => v H1 u hI _ fun b' H2 u2 i2 hb => by
      subst hb
      exact v2 H2 (u.trans u2) i2 Q fun b3 H3 u3 i3 hb3 => q b3 H3 (u2.trans u3) i3 (by rw [hb3]; rfl)⟩
  | true =>
    obtain ⟨_, p2⟩ := hp rfl
    exact ⟨_, pw_or p p2, fun H1 u hI Q q => v H1 u hI _ fun b' H2 u2 i2 hb => by
      subst hb
      exact q true H2 u2 i2 rfl⟩
theorem Txw.tx {P : Bool → Prop} (h : Txw X W e σ H P) : Tx X W e σ H P := let ⟨_, p, v⟩ := h; ⟨_, p.pt, v⟩
/-- both always asked for their proof -/
theorem txw_and' {k l : Bool} (h : Tx X W a σ H (· = k)) (h2 : Txw X W (.BoolOp .And (b :: rest) pos) σ H (· = l)) : Txw X W (.BoolOp .And (a :: b :: rest) pos) σ H (· = (k && l)) := txw_and h (fun _ => h2) fun _ => let ⟨_, p, _⟩ := h2; ⟨_, p⟩
theorem txw_or' {k l : Bool} (h : Tx X W a σ H (· = k)) (h2 : Txw X W (.BoolOp .Or (b :: rest) pos) σ H (· = l)) : Txw X W (.BoolOp .Or (a :: b :: rest) pos) σ H (· = (k || l)) := txw_or h (fun _ => h2) fun _ => let ⟨_, p, _⟩ := h2; ⟨_, p⟩
/-- values -/
theorem dx_one {op} {P : α → Prop} (h : Dx X W a σ H P) : Dx X W (.BoolOp op [a] pos) σ H P := let ⟨_, p, v⟩ := h; ⟨_, pe_one p, v⟩
theorem dx_and {k l : Bool} (h : Dx X W a σ H (· = k)) (h2 : k = true → Dx X W (.BoolOp .And (b :: rest) pos) σ H (· = l)) (hp : k = false → ∃ t, PE X (.BoolOp .And (b :: rest) pos) t) : Dx X W (.BoolOp .And (a :: b :: rest) pos) σ H (· = (k && l)) := by
  obtain ⟨_, p, v⟩ := h
  cases k with
  | true =>
    obtain ⟨_, p2, v2⟩ := h2 rfl
    exact ⟨_, pe_and p p2, fun H1 u hI Q q => v H1 u hI _ fun v' H2 x u2 i2 hx hb => by
      subst hb
      exact ⟨true, hx, v2 H2 (u.trans u2) i2 Q fun v3 H3 b3 u3 i3 hx3 hb3 => q v3 H3 b3 (u2.trans u3) i3 hx3 (by rw [hb3]; rfl)⟩⟩
  | false =>
    obtain ⟨_, p2⟩ := hp rfl
    exact ⟨_, pe_and p p2, fun H1 u hI Q q => v H1 u hI _ fun v' H2 x u2 i2 hx hb => by
      subst hb
      exact ⟨false, hx, q (.bl false) H2 false u2 i2 rfl rfl⟩⟩
theorem dx_or {k l : Bool} (h : Dx X W a σ H (· = k)) (h2 : k = false → Dx X W (.BoolOp .Or (b :: rest) pos) σ H (· = l)) (hp : k = true → ∃ t, PE X (.BoolOp .Or (b :: rest) pos) t) : Dx X W (.BoolOp .Or (a :: b :: rest) pos) σ H (· = (k || l)) := by
  obtain ⟨_, p, v⟩ := h
  cases k with
  | false =>
    obtain ⟨_, p2, v2⟩ := h2 rfl
    exact ⟨_, pe_or p p2, fun H1 u hI Q q => v H1 u hI _ fun v' H2 x u2 i2 hx hb => by
      subst hb
      exact ⟨false, hx, v2 H2 (u.trans u2) i2 Q fun v3 H3 b3 u3 i3 hx3 hb3 => q v3 H3 b3 (u2.trans u3) i3 hx3 (by rw [hb3]; rfl)⟩⟩
  | true =>
    obtain ⟨_, p2⟩ := hp rfl
    exact ⟨_, pe_or p p2, fun H1 u hI Q q => v H1 u hI _ fun v' H2 x u2 i2 hx hb => by
      subst hb
      exact ⟨true, hx, q (.bl true) H2 true u2 i2 rfl rfl⟩⟩
theorem dx_and' {k l : Bool} (h : Dx X W a σ H (· = k)) (h2 : Dx X W (.BoolOp .And (b :: rest) pos) σ H (· = l)) : Dx X W (.BoolOp .And (a :: b :: rest) pos) σ H (· = (k && l)) := dx_and h (fun _ => h2) fun _ => let ⟨_, p, _⟩ := h2; ⟨_, p⟩
theorem dx_or' {k l : Bool} (h : Dx X W a σ H (· = k)) (h2 : Dx X W (.BoolOp .Or (b :: rest) pos) σ H (· = l)) : Dx X W (.BoolOp .Or (a :: b :: rest) pos) σ H (· = (k || l)) := dx_or h (fun _ => h2) fun _ => let ⟨_, p, _⟩ := h2; ⟨_, p⟩
theorem dx_not {k : Bool} (h : Dx X W a σ H (· = k)) : Dx X W (.UnaryOp .Not a pos) σ H (· = !k) := let ⟨_, p, v⟩ := h; ⟨_, pe_not p, fun H1 u hI Q q => v H1 u hI _ fun v' H2 x u2 i2 hx hb => ⟨x, hx, q _ H2 (!x) u2 i2 rfl (by rw [hb])⟩⟩
theorem dx_neg {i : Int} (h : Dx X W a σ H (· = i)) : Dx X W (.UnaryOp .USub a pos) σ H (· = -i) := let ⟨_, p, v⟩ := h; ⟨_, pe_un un_neg p, fun H1 u hI Q q => v H1 u hI _ fun v' H2 x u2 i2 hx hb => ⟨x, hx, q _ H2 (-x) u2 i2 rfl (by rw [hb])⟩⟩
theorem dx_if {k : Bool} {x : α} (h : Tx X W c σ H (· = k)) (h1 : k = true → Dx X W a σ H (· = x)) (h2 : k = false → Dx X W b σ H (· = x)) (p1 : k = false → ∃ t, PE X a t) (p2 : k = true → ∃ t, PE X b t) : Dx X W (.IfExp c a b pos) σ H (· = x) := by
  obtain ⟨_, p, v⟩ := h
  cases k with
  | true =>
    obtain ⟨_, pa, va⟩ := h1 rfl
    obtain ⟨_, pb⟩ := p2 rfl
    exact ⟨_, pe_ifExp p pa pb, fun H1 u hI Q q => v H1 u hI _ fun b' H2 u2 i2 hb => by
      subst hb
      exact va H2 (u.trans u2) i2 Q fun v3 H3 b3 u3 i3 hx3 hb3 => q v3 H3 b3 (u2.trans u3) i3 hx3 hb3⟩
  | false =>
    obtain ⟨_, pb, vb⟩ := h2 rfl
    obtain ⟨_, pa⟩ := p1 rfl
    exact ⟨_, pe_ifExp p pa pb, fun H1 u hI Q q => v H1 u hI _ fun b' H2 u2 i2 hb => by
      subst hb
      exact vb H2 (u.trans u2) i2 Q fun v3 H3 b3 u3 i3 hx3 hb3 => q v3 H3 b3 (u2.trans u3) i3 hx3 hb3⟩
theorem dx_ifB {k : Bool} {x y : α} (h : Tx X W c σ H (· = k)) (h1 : Dx X W a σ H (· = x)) (h2 : Dx X W b σ H (· = y)) : Dx X W (.IfExp c a b pos) σ H (· = if k = true then x else y) :=
  dx_if h (fun e => by rw [if_pos e]; exact h1) (fun e => by rw [if_neg (by rw [e]; exact Bool.false_ne_true)]; exact h2) (fun _ => let ⟨_, p, _⟩ := h1; ⟨_, p⟩) (fun _ => let ⟨_, p, _⟩ := h2; ⟨_, p⟩)

/-! ### statements -/
def Wss (X : Cx) (sts : List Stmt) (D : Ends) (σ : L2.St) (H : Hp) : Prop := ∃ t, PSs X sts t ∧ t D σ H
theorem wss_all {sts : List Stmt} : PSs X sts (fun D σ H => Wss X sts D σ H) := ⟨fun pins s σ H D I ⟨t, p, q⟩ => p.run pins s σ H D I q⟩
variable {D : Ends} {sts bd be : List Stmt}
theorem wss_nil (h : D.nx σ H) : Wss X [] D σ H := ⟨_, pss_nil, h⟩
theorem wss_never : False → Wss X sts D σ H := fun h => h.elim
theorem wss_set (i : Nat) {nm : Str} {P : α → Prop} {pos' : Pos} (he : Dx X W e σ H P) (hI : W.I H) (k : ∀ v H1 x, Up W H H1 → W.I H1 → Is W H1 v x → P x → Wss X sts D (σ.set i (some v)) H1) (nd : X.N.Nodup)
    (hi : X.N[i]? = some nm := by rfl) (hx : Loc X.env.scope nm := by first | exact Or.inl rfl | exact Or.inr rfl) (hs : swapsWith e (some (.Name nm pos')) pos.line X.env = pure false := by rfl) (hf : X.fn nm = true ∨ X.env.scope.names.lookup nm = some .local := by first | exact .inl rfl | exact .inr rfl) :
    Wss X (.Assign [.Name nm pos'] e pos :: sts) D σ H := by
  obtain ⟨te, pe, ev⟩ := he
  exact ⟨_, pss_cons (ps_set nd hi hx pe hs hf) wss_all, ev H (Up.refl _) hI _ fun v H1 x u i1 hx hp => k v H1 x u i1 hx hp⟩
theorem wss_ret {P : α → Prop} (he : Dx X W e σ H P) (hI : W.I H) (k : ∀ v H1 x, Up W H H1 → W.I H1 → Is W H1 v x → P x → D.rt v H1) : Wss X (.Return (some e) pos :: sts) D σ H := by
  obtain ⟨te, pe, ev⟩ := he
  exact ⟨_, pss_cons (ps_ret pe) wss_all, ev H (Up.refl _) hI _ fun v H1 x u i1 hx hp => k v H1 x u i1 hx hp⟩
theorem wss_if {P : Bool → Prop} (hc : Tx X W c σ H P) (hI : W.I H) (k : ∀ b H1, Up W H H1 → W.I H1 → P b → if b = true then Wss X bd { D with nx := fun σ' H' => Wss X sts D σ' H' } σ H1 else Wss X be { D with nx := fun σ' H' => Wss X sts D σ' H' } σ H1) : Wss X (.If c bd be pos :: sts) D σ H := by
  obtain ⟨tc, pc, ev⟩ := hc
  exact ⟨_, pss_cons (ps_if pc wss_all wss_all) wss_all, ev H (Up.refl _) hI _ fun b H1 u i1 hb => k b H1 u i1 hb⟩
/-- the answer is known -/
theorem wss_ifT {k : Bool} (hc : Tx X W c σ H (· = k)) (hI : W.I H) (hk : k = true) (q : ∀ H1, Up W H H1 → W.I H1 → Wss X bd { D with nx := fun σ' H' => Wss X sts D σ' H' } σ H1) : Wss X (.If c bd be pos :: sts) D σ H := wss_if hc hI fun b H1 u i1 hb => by
  subst hb
  rw [if_pos hk]
  exact q H1 u i1
theorem wss_ifF {k : Bool} (hc : Tx X W c σ H (· = k)) (hI : W.I H) (hk : k = false) (q : ∀ H1, Up W H H1 → W.I H1 → Wss X be { D with nx := fun σ' H' => Wss X sts D σ' H' } σ H1) : Wss X (.If c bd be pos :: sts) D σ H := wss_if hc hI fun b H1 u i1 hb => by
  subst hb
  rw [if_neg (by rw [hk]; exact Bool.false_ne_true)]
  exact q H1 u i1
theorem wss_ifF0 {k : Bool} (hc : Tx X W c σ H (· = k)) (hI : W.I H) (hk : k = false) (q : ∀ H1, Up W H H1 → W.I H1 → Wss X sts D σ H1) : Wss X (.If c bd [] pos :: sts) D σ H := wss_ifF hc hI hk fun H1 u i1 => wss_nil (q H1 u i1)
theorem wss_if2 {k : Bool} (hc : Tx X W c σ H (· = k)) (hI : W.I H) (h1 : k = true → ∀ H1, Up W H H1 → W.I H1 → Wss X bd { D with nx := fun σ' H' => Wss X sts D σ' H' } σ H1) (h2 : k = false → ∀ H1, Up W H H1 → W.I H1 → Wss X be { D with nx := fun σ' H' => Wss X sts D σ' H' } σ H1) :
    Wss X (.If c bd be pos :: sts) D σ H := by
  cases k with
  | true => exact wss_ifT hc hI rfl (h1 rfl)
  | false => exact wss_ifF hc hI rfl (h2 rfl)
/-- a, b = x, y -/
theorem wss_par (i j : Nat) {n1 n2 : Str} {P : α → Prop} {R : β → Prop} {p1 p2 pt pt2 : Pos} {kt k2} (ha : Dx X W a σ H P) (hb : Dx X W b σ H R) (hI : W.I H)
    (k : ∀ v w H1 x y, Up W H H1 → W.I H1 → Is W H1 v x → Is W H1 w y → P x → R y → Wss X sts D ((σ.set i (some v)).set j (some w)) H1) (hc : X.calm = true) (nd : X.N.Nodup) (hi : X.N[i]? = some n1 := by rfl) (hj : X.N[j]? = some n2 := by rfl) (hij : i ≠ j := by decide)
    (hx : X.env.scope.names.lookup n1 = some .local := by rfl) (hy : X.env.scope.names.lookup n2 = some .local := by rfl)
    (hw : swappedStores [.Tuple [.Name n1 p1, .Name n2 p2] kt pt] (.Tuple [a, b] k2 pt2) X.env = pure (some [n1, n2]) := by rfl)
    (hs : swapsWithSole [.Tuple [.Name n1 p1, .Name n2 p2] kt pt] (.Tuple [a, b] k2 pt2) pos.line X.env = pure false := by rfl)
    (e1 : starEach (a :: [b]) X.env = (false, eval a X.env) :: starEach [b] X.env := by rfl) (e2 : starEach (b :: []) X.env = (false, eval b X.env) :: starEach [] X.env := by rfl) :
    Wss X (.Assign [.Tuple [.Name n1 p1, .Name n2 p2] kt pt] (.Tuple [a, b] k2 pt2) pos :: sts) D σ H := by
  obtain ⟨ta, pa, va⟩ := ha
  obtain ⟨tb, pb, vb⟩ := hb
  refine ⟨_, pss_cons (ps_par hc nd hi hj hij hx hy (pa_cons pa (pa_cons pb pa_nil e2) e1) hw hs) wss_all, va H (Up.refl _) hI _ fun v H1 x u1 i1 h1 px => vb H1 u1 i1 _ fun w H2 y u2 i2 h2 py => ⟨v, w, rfl, ?_⟩⟩
  exact k v w H2 x y (u1.trans u2) i2 (Dat.up u2 h1) h2 px py
end
end Inn

set_option Elab.async false
set_option linter.all false
set_option maxRecDepth 100000
set_option maxHeartbeats 4000000
namespace PySem
open Sem (wp)
open Builtin
section
variable (a : Int) (t : Tok) (l C dx : Addr)
theorem own_int_add : Meets (Builtin.«int.__add__» ⟨[.int a t, .ref l], []⟩) (fun _ R s => s.heap.get? l = some (PySem.W.instObj C dx) ∧ R (.ok (.ret Value.notImplemented)) s) :=
  .of_wp fun prog w A R s h => by obtain ⟨hp, g, d, tk, os⟩ := s; obtain ⟨hl, h⟩ := h; wp_walk; exact ⟨_, rfl, h⟩
theorem own_int_sub : Meets (Builtin.«int.__sub__» ⟨[.int a t, .ref l], []⟩) (fun _ R s => s.heap.get? l = some (PySem.W.instObj C dx) ∧ R (.ok (.ret Value.notImplemented)) s) :=
  .of_wp fun prog w A R s h => by obtain ⟨hp, g, d, tk, os⟩ := s; obtain ⟨hl, h⟩ := h; wp_walk; exact ⟨_, rfl, h⟩
theorem own_int_mul : Meets (Builtin.«int.__mul__» ⟨[.int a t, .ref l], []⟩) (fun _ R s => s.heap.get? l = some (PySem.W.instObj C dx) ∧ R (.ok (.ret Value.notImplemented)) s) :=
  .of_wp fun prog w A R s h => by obtain ⟨hp, g, d, tk, os⟩ := s; obtain ⟨hl, h⟩ := h; wp_walk; exact ⟨_, rfl, h⟩
theorem own_int_eq : Meets (Builtin.«int.__eq__» ⟨[.int a t, .ref l], []⟩) (fun _ R s => s.heap.get? l = some (PySem.W.instObj C dx) ∧ R (.ok (.ret Value.notImplemented)) s) :=
  .of_wp fun prog w A R s h => by obtain ⟨hp, g, d, tk, os⟩ := s; obtain ⟨hl, h⟩ := h; wp_walk; exact ⟨_, rfl, h⟩
end
namespace W
open PySem.Calls PyProof.Rows
section
variable {prog : Program} {w : World} {A : Around} {E : Value → Shared → Prop} {s : Shared} {K : Frag} {x C f f0 : Addr} {ox : Obj} {od : Option Obj} {i : Int} {t : Tok} {b : Value}
/-- int op own instance: the instance's reflected def -/
theorem rop_int {op : Operator} {idl : String} {Q : Value → Shared → Prop} (X : K.In s.heap) (I : InstAt s.heap x ox C od) (hc : selfFirst K C = true)
    (h0 : findIn K (.ref C) (PySem.dunder op.info.2) = some (some (.ref f0))) (hs : findIn K (.ref C) (dunderR op.info.2) = some (some (.ref f))) (hf : isFn K (.ref f) = true) (hsub : subIn K (.ref C) (.type "int") = some false)
    (hfT : fillsNumberSlot (.type "int") op.info.2 = pure true) (slot : Slot "int" (PySem.dunder op.info.2) idl)
    (hd : ∀ Q : Value → Shared → Prop, Q .notImplemented s → wpAny (model prog w) A (call (.builtin idl) [.int i t, .ref x]) Q E s)
    (h : wpAny (model prog w) A (call (.ref f) [.ref x, .int i t]) (CmpBack Q) E s) : wpAny (model prog w) A (binaryOp op (.int i t) (.ref x)) Q E s := by
  obtain ⟨cd, rest, hcd, hm⟩ := ksp_first hc
  rcases hi : op.info with ⟨sym, nm'⟩
  rw [hi] at h0 hs hfT slot
  dsimp only at h0 hs hfT slot
  have one := ksp_try X I hs hf h
  have two : ∀ Q : Option Value → Shared → Prop, Q none s → wpAny (model prog w) A (tryMethod (.int i t) (PySem.dunder nm') (.ref x)) Q E s := fun Q q => wpAny_tryMethod_declines (typeIs_int _ _ _) slot (hd _ ⟨rfl, q⟩)
  have L3 : Looks (model prog w) s.heap (fillsNumberSlot (.ref C) nm') true := fills_K X hcd hm h0
  have L5 : Looks (model prog w) s.heap (isSubtype (.ref C) (.type "int")) false := looks_subIn X hsub
  have hne : (Value.type "int" == Value.ref C) = false := Bool.eq_false_iff.mpr fun q => by cases beq_iff_eq.mp q
  simp only [binaryOp, hi]
  refine wpAny_holding (wpAny_bind ?_)
  unfold binaryOp1
  refine wpAny_bind (wpAny_typeOf (typeIs_int _ _ _) (wpAny_bind (I.type.here (wpAny_bind (wpAny_of_eq hfT ?_)))))
  simp only [hne, Bool.false_eq_true, if_false]
  refine wpAny_bind (L3.here ?_)
  simp only [Bool.and_self, if_true]
  refine wpAny_bind (L5.here ?_)
  have hpy : numberSlotInPython (.type "int") nm' = pure false := rfl
  simp only [Bool.false_eq_true, if_false, pure_bind, Bool.not_false, Bool.and_self, if_true, hpy]
  refine wpAny_bind (two _ ?_)
  refine wpAny_bind (wpAny_mono one (fun r s' hr' => ?_) fun _ _ e => e)
  obtain ⟨v, rfl, hq⟩ := hr'
  exact wpAny_bind (wpAny_rule (wpAny_pure (wpAny_pure hq)))

/-- object.__ne__ of an instance with its own __eq__ -/
theorem ne_call {Q : Value → Shared → Prop} (hu : A.in1.units < cLine) (X : K.In s.heap) (I : InstAt s.heap x ox C od) (hm : mroIn K C (.type "object") = some true) (he : findIn K (.ref C) "__eq__" = some (some (.ref f))) (hf : isFn K (.ref f) = true)
    (h : wpAny (model prog w) A.in1 (call (.ref f) [.ref x, b]) (fun v s' => ∃ k, v = .bool k ∧ Q (.bool (!k)) s') E s) : wpAny (model prog w) A (call (.builtin "object.__ne__") [.ref x, b]) Q E s := by
  refine wpAny_call (codeAny_call_builtin (by decide +kernel) F.cmpEntry_ne (check_slot (i := "object.__ne__") (owner := "object") (n := "__ne__") (by decide +kernel) (by decide +kernel) (I.type.andThen (looks_mroIn X hm)) (F.cmpArgs_ne _ _) ?_))
  unfold Builtin.«object.__ne__»
  repeat (first
    | with_reducible refine wpAny_cRoomFor hu ?_
    | (refine wpAny_bind (m := callSpecialIfBound? (.ref x) (Str.ofString "__eq__") [b])
        (ifBound_K X I he hf (wpAny_mono h (fun r s' hr => by
          obtain ⟨k, rfl, hq⟩ := hr
          repeat (first | exact hq | exact wpAny_pure hq | exact wpAny_truthy_bool hq | (refine wpAny_bind (m := truthy (.bool _)) (wpAny_truthy_bool ?_)) | wp_step)) fun _ _ e => e)))
    | wp_step)
theorem bind_objne (self : Value) : bindSpecial (.builtin "object.__ne__") self = pure (.builtin "object.__ne__", [self]) := F.cmp_object.ne.bind self
theorem ifBound_B {M : Model} {id : String} {name : Str} {args : List Value} {Q : Option Value → Shared → Prop} (X : K.In s.heap) (I : InstAt s.heap x ox C od) (hs : findIn K (.ref C) name = some (some (.builtin id))) (hb : ∀ self, bindSpecial (.builtin id) self = pure (.builtin id, [self]))
    (h : wpAny M A (call (.builtin id) (.ref x :: args)) (fun v => Q (some v)) E s) : wpAny M A (callSpecialIfBound? (.ref x) name args) Q E s := by
  simp only [callSpecialIfBound?, bindSpecialIfBound?]
  refine wpAny_holding (wpAny_bind (wpAny_bind (wpAny_bind (I.type.here ((looks_findIn X hs).here ?_)))))
  simp only [hb]
  refine wpAny_bind (wpAny_askSetting (wpAny_ite ?_))
  have fin : wpAny M A (call (.builtin id) ([.ref x] ++ args) >>= fun v => pure (some v)) Q E s := wpAny_bind (wpAny_mono h (fun v s' h' => wpAny_pure h') fun _ _ h' => h')
  split
  · exact wpAny_bind (wpAny_pure (wpAny_pure (by exact fin)))
  · exact wpAny_tryCatch (wpAny_bind (wpAny_pure (wpAny_pure (by exact fin))))
/-- own != by the own == -/
theorem ne_K {tb : Value} {Q : Value → Shared → Prop} (hu : A.units + 1 < cLine) (X : K.In s.heap) (I : InstAt s.heap x ox C od) (hb : Looks (model prog w) s.heap (typeOf b) tb) (hn : notFirst K C tb = true)
    (hs : findIn K (.ref C) "__ne__" = some (some (.builtin "object.__ne__"))) (hm : mroIn K C (.type "object") = some true) (he : findIn K (.ref C) "__eq__" = some (some (.ref f))) (hf : isFn K (.ref f) = true)
    (h : wpAny (model prog w) A.in1 (call (.ref f) [.ref x, b]) (fun v s' => ∃ k, v = .bool k ∧ Q (.bool (!k)) s') E s) : wpAny (model prog w) A (richCompare .NotEq (.ref x) b) Q E s := by
  have one : wpAny (model prog w) A (tryCompare (.ref x) "__ne__" b) (fun r s' => ∃ v, r = some v ∧ Q v s') E s := by
    unfold tryCompare
    refine wpAny_bind (ifBound_B X I hs bind_objne (ne_call (by show A.units + 1 < cLine; exact hu) X I hm he hf (wpAny_mono h (fun v s' hv => ?_) fun _ _ e => e)))
    obtain ⟨k, e, hq⟩ := hv
    exact ⟨k, e, wpAny_pure ⟨_, rfl, hq⟩⟩
  unfold richCompare
  simp only [oneThing_ref]
  refine wpAny_holding (wpAny_bind (wpAny_cRoomFor (Nat.lt_of_succ_lt hu) ?_))
  rw [cmpInfo_NotEq]
  dsimp only
  refine wpAny_bind (I.type.here (wpAny_bind (hb.here ?_)))
  split
  · rename_i q
    have e : subIn K tb (.ref C) = some false := by
      rcases Bool.or_eq_true_iff.mp hn with e | e
      · rw [beq_iff_eq.mp e] at q; simp at q
      · exact beq_iff_eq.mp e
    refine wpAny_bind ((looks_subIn X e).here ?_)
    simp only [Bool.false_eq_true, if_false]
    refine wpAny_bind (wpAny_mono one (fun r s' z => ?_) fun _ _ e => e)
    obtain ⟨v, rfl, hq⟩ := z
    exact wpAny_pure hq
  · refine wpAny_bind (wpAny_pure ?_)
    simp only [Bool.false_eq_true, if_false]
    refine wpAny_bind (wpAny_mono one (fun r s' z => ?_) fun _ _ e => e)
    obtain ⟨v, rfl, hq⟩ := z
    exact wpAny_pure hq
/-- int == own instance: the instance's == -/
theorem eq_int_own {Q : Value → Shared → Prop} (hu : A.units < cLine) (X : K.In s.heap) (I : InstAt s.heap x ox C od) (hs : findIn K (.ref C) "__eq__" = some (some (.ref f))) (hf : isFn K (.ref f) = true) (hsub : subIn K (.ref C) (.type "int") = some false)
    (hd : ∀ Q : Value → Shared → Prop, Q .notImplemented s → wpAny (model prog w) A (call (.builtin "int.__eq__") [.int i t, .ref x]) Q E s)
    (h : wpAny (model prog w) A (call (.ref f) [.ref x, .int i t]) (CmpBack Q) E s) : wpAny (model prog w) A (richCompare .Eq (.int i t) (.ref x)) Q E s := by
  have one : wpAny (model prog w) A (tryCompare (.ref x) "__eq__" (.int i t)) (fun r s' => ∃ v, r = some v ∧ Q v s') E s := by
    unfold tryCompare
    refine wpAny_bind (ifBound_K X I hs hf (wpAny_mono h (fun v s' hv => ?_) fun _ _ e => e))
    cases v <;> first | exact hv.elim | exact wpAny_pure ⟨_, rfl, hv⟩
  have two : ∀ Q : Option Value → Shared → Prop, Q none s → wpAny (model prog w) A (tryCompare (.int i t) "__eq__" (.ref x)) Q E s := fun Q q => by
    unfold tryCompare
    exact wpAny_bind (wpAny_callSpecialIfBound?_slot (typeIs_int _ _ _) F.slot_int_eq (hd _ (wpAny_pure q)))
  have L5 : Looks (model prog w) s.heap (isSubtype (.ref C) (.type "int")) false := looks_subIn X hsub
  unfold richCompare
  simp only [oneThing?]
  refine wpAny_holding (wpAny_bind (wpAny_cRoomFor hu ?_))
  simp only [cmpInfo]
  refine wpAny_bind (wpAny_typeOf (typeIs_int _ _ _) (wpAny_bind (I.type.here ?_)))
  have hne : (Value.type "int" != Value.ref C) = true := bne_iff_ne.mpr fun q => nomatch q
  have hne2 : (Value.ref C != Value.type "int") = true := bne_iff_ne.mpr fun q => nomatch q
  simp only [hne, hne2, if_true]
  refine wpAny_bind (L5.here ?_)
  simp only [Bool.false_eq_true, if_false, Bool.not_false, if_true]
  refine wpAny_bind (two _ ?_)
  refine wpAny_bind (wpAny_mono one (fun r s' z => ?_) fun _ _ e => e)
  obtain ⟨v, rfl, hq⟩ := z
  exact wpAny_pure hq
end
end W
end PySem

set_option Elab.async false
set_option linter.all false
set_option maxRecDepth 100000
set_option maxHeartbeats 4000000
namespace Inn
open PySem L2 PySem.Spec PyProof.Rows
open Dat (Is)

/-! ### promises over data -/
def SpF {A β : Type} [DArgs A] [Dat β] (pre : A → Prop) (R : A → β → Prop) : Sp := fun vs H Q _ => ∃ (W : Wld) (a : A), DArgs.Is W H vs a ∧ W.I H ∧ pre a ∧ ∀ u H' y, Up W H H' → W.I H' → Is W H' u y → R a y → Q u H'
theorem spF_len {A β : Type} [DArgs A] [Dat β] {pre : A → Prop} {R : A → β → Prop} {vs : List V} {H : Hp} {Q : VK} {E : XK} (h : SpF pre R vs H Q E) : vs.length = DArgs.n A := by
  obtain ⟨W, a, h1, _⟩ := h
  exact DArgs.len h1
/-- a def of the module -/
structure Def (P : Program) (w : World) (K : PySem.W.Frag) (mg : Str → Option Value) (base : Heap) (k : Nat) (nm : Str) (ps : List Str) (sp : Sp) : Prop where
  ex : ∃ f fd, FnOk P w K mg base CX0 k f fd ps sp ∧ mg nm = some (.ref f) ∧ PySem.W.keepIn K (.ref f) = true ∧ Binds K fd ps []
theorem Def.mono {P : Program} {w : World} {K : PySem.W.Frag} {mg : Str → Option Value} {base : Heap} {j k : Nat} {nm : Str} {ps : List Str} {sp : Sp} (d : Def P w K mg base j nm ps sp) (h : j ≤ k) : Def P w K mg base k nm ps sp :=
  let ⟨f, fd, F, a, b, c⟩ := d.ex
  ⟨f, fd, F.mono h, a, b, c⟩
/-- a method of the class at C -/
structure MDef (P : Program) (w : World) (K : PySem.W.Frag) (mg : Str → Option Value) (base : Heap) (k : Nat) (C : Addr) (nm : Str) (ps : List Str) (sp : Sp) : Prop where
  ex : ∃ f fd, FnOk P w K mg base CX0 k f fd ps sp ∧ Meth K C nm f ∧ Binds K fd ps []
/-- a property -/
structure PDef (P : Program) (w : World) (K : PySem.W.Frag) (mg : Str → Option Value) (base : Heap) (k : Nat) (C : Addr) (nm : Str) (sp : Sp) : Prop where
  ex : ∃ p g fd, FnOk P w K mg base CX0 k g fd ["self"] sp ∧ PropOf K C nm p g ∧ Binds K fd ["self"] []

section
variable {α β γ A : Type} [Dat α] [Dat β] [Dat γ] [DArgs A]
variable {X : Cx} {W : Wld} {σ : L2.St} {H : Hp} {pos p apos : Pos} {a b c e o : Expr} {es rest : List Expr} {k : Nat} {nm : Str} {ps : List Str} {pre : A → Prop} {R : A → β → Prop} {C : Addr}
theorem ev_spF {ta : TA} {P : A → Prop} (va : EvA W ta σ H P) (hp : ∀ a, P a → pre a) {E : XK} : Ev W (tCall (SpF pre R) [] E ta) σ H (fun y => ∃ a, P a ∧ R a y) := fun H1 u hI Q q => va H1 u hI _ fun vs H2 a u2 i2 ha pa => by
  rw [List.append_nil]
  exact ⟨W, a, ha, i2, hp a pa, fun w H3 y u3 i3 hy ry => q w H3 y (u2.trans u3) i3 hy ⟨a, pa, ry⟩⟩
theorem dx_callP {P : A → Prop} (B : Def X.prog X.w X.K X.mg X.base k nm ps (SpF pre R)) (hr : Room k X.A) (ha : Ax X W (e :: es) σ H P) (hp : ∀ a, P a → pre a) (hg : Gl X nm := by rfl) (hdb : (nm == ("__debug__" : Str)) = false := by decide)
    (he : starEach (e :: es) X.env = (false, eval e X.env) :: starEach es X.env := by rfl) (hpl : (backTo pos (starEach es X.env)).any (·.1) = false := by rfl) : Dx X W (.Call (.Name nm p) (e :: es) [] pos) σ H (fun y => ∃ a, P a ∧ R a y) := by
  obtain ⟨f, fd, F, hm, hk, hb⟩ := B.ex
  obtain ⟨ta, pa, va⟩ := ha
  exact ⟨_, pe_call (E := E0) F hr hg hm hk hb .nil pass0 pa hdb he hpl, ev_spF va hp⟩
theorem dx_call {x : A} (B : Def X.prog X.w X.K X.mg X.base k nm ps (SpF pre R)) (hr : Room k X.A) (ha : Ax X W (e :: es) σ H (· = x)) (hp : pre x) (hg : Gl X nm := by rfl) (hdb : (nm == ("__debug__" : Str)) = false := by decide)
    (he : starEach (e :: es) X.env = (false, eval e X.env) :: starEach es X.env := by rfl) (hpl : (backTo pos (starEach es X.env)).any (·.1) = false := by rfl) : Dx X W (.Call (.Name nm p) (e :: es) [] pos) σ H (R x) :=
  (dx_callP B hr ha (fun a pa => pa ▸ hp) hg hdb he hpl).imp fun y hy => by
    obtain ⟨a, pa, ry⟩ := hy
    exact pa ▸ ry
theorem dx_call0 {pre : Nil → Prop} {R : Nil → β → Prop} (B : Def X.prog X.w X.K X.mg X.base k nm ps (SpF pre R)) (hr : Room k X.A) (hI0 : True) (hp : pre ⟨⟩) (hg : Gl X nm := by rfl) (hdb : (nm == ("__debug__" : Str)) = false := by decide) :
    Dx X W (.Call (.Name nm p) [] [] pos) σ H (R ⟨⟩) := by
  obtain ⟨f, fd, F, hm, hk, hb⟩ := B.ex
  exact ⟨_, pe_call0 (E := E0) F hr hg hm hk hb .nil pass0 hdb, fun H1 u hI Q q => ⟨W, ⟨⟩, rfl, hI, hp, fun w H3 y u3 i3 hy ry => q w H3 y u3 i3 hy ry⟩⟩
end

/-! ### the body of a def -/
theorem fn_body {A β : Type} [DArgs A] [Dat β] {pre : A → Prop} {R : A → β → Prop} {P : Program} {w : World} {K : PySem.W.Frag} {mg : Str → Option Value} {base : Heap} {x qual : Str} {st : Stmt} {f : Addr} {fd : FuncData} {N ps : List Str} {k : Nat}
    (F : Fun K x qual st f fd) (S : FnScope N ps (defScope st)) (hn : DArgs.n A = ps.length)
    (body : ∀ (cdv : Value) (A' : Around) (outer : List Env) (s : Shared) (H : Hp) (E : XK) (W : Wld) (vs : List V) (a : A) (Q : VK), Room k (A'.deeper (envOfC qual (defScope st) s.heap.objs.size f cdv)) → DArgs.Is W H vs a → W.I H → pre a →
      (∀ u H' y, Up W H H' → W.I H' → Is W H' u y → R a y → Q u H') → Wss (cxOf CX0 P w K mg base N qual (defScope st) f cdv A' outer s H E).nox (defBody st) { nx := fun _ H' => Q .non H', rt := Q } (start N vs) H) :
    FnOk P w K mg base CX0 (k + 1) f fd ps (SpF pre R) :=
  F.ok S (fun vs H Q E h => (spF_len h).trans hn) fun cdv A' outer s H vs Q E hr ⟨W, a, h1, hI, hp, q⟩ => body cdv A' outer s H E W vs a Q hr h1 hI hp q

/-! ### values of any kind -/
inductive Vd (C : Addr) where
  | int (i : Int) | bl (b : Bool) | non | str (x : Str) | rat (x : Rt C) | lst | tup | dct
instance {C : Addr} : Dat (Vd C) where
  Is W H v x := match x with
    | .int i => v = .int i
    | .bl b => v = .bl b
    | .non => v = .non
    | .str z => v = .str z
    | .rat r => Is W H v r
    | .lst => ∃ p us, v = .ref p ∧ ¬ W.M p ∧ H p = some (.lst us)
    | .tup => ∃ p us, v = .ref p ∧ ¬ W.M p ∧ H p = some (.tup us)
    | .dct => ∃ p us, v = .ref p ∧ ¬ W.M p ∧ H p = some (.dK us)
  up e h := by
    rename_i x
    cases x with
    | int i => exact h
    | bl b => exact h
    | non => exact h
    | str z => exact h
    | rat r => exact Dat.up (α := Rt C) e h
    | lst => obtain ⟨p, us, e1, n, e2⟩ := h; exact ⟨p, us, e1, n, e p _ n e2⟩
    | tup => obtain ⟨p, us, e1, n, e2⟩ := h; exact ⟨p, us, e1, n, e p _ n e2⟩
    | dct => obtain ⟨p, us, e1, n, e2⟩ := h; exact ⟨p, us, e1, n, e p _ n e2⟩
/-- a NUMBER -/
inductive Nm (C : Addr) where
  | i (n : Int) | r (x : Rt C)
namespace Nm
variable {C : Addr}
def t : Nm C → Int
  | .i n => n
  | .r x => x.t
def b : Nm C → Int
  | .i _ => 1
  | .r x => x.b
def vd : Nm C → Vd C
  | .i n => .int n
  | .r x => .rat x
end Nm
instance {C : Addr} : Dat (Nm C) where
  Is W H v x := match x with
    | .i n => v = .int n
    | .r y => Is W H v y
  up e h := by
    rename_i x
    cases x with
    | i n => exact h
    | r y => exact Dat.up (α := Rt C) e h
section
variable {X : Cx} {W : Wld} {σ : L2.St} {H : Hp} {pos p apos : Pos} {a b c e o : Expr} {C : Addr} {α β : Type} [Dat α] [Dat β]
/-- one kind of data as another -/
theorem Dx.as {P : α → Prop} {R : β → Prop} (h : Dx X W e σ H P) (f : α → β) (hf : ∀ {H v x}, Is W H v x → P x → Is W H v (f x) ∧ R (f x)) : Dx X W e σ H R :=
  let ⟨te, pe, ev⟩ := h
  ⟨te, pe, fun H1 u hI Q q => ev H1 u hI Q fun v H2 x u2 i2 hx px => q v H2 (f x) u2 i2 (hf hx px).1 (hf hx px).2⟩
theorem dx_nmI {i : Int} (h : Dx X W e σ H (· = i)) : Dx X W e σ H (fun y : Nm C => y = .i i) := h.as Nm.i fun hx px => by subst px; exact ⟨hx, rfl⟩
theorem dx_nmR {r : Rt C} (h : Dx X W e σ H (· = r)) : Dx X W e σ H (fun y : Nm C => y = .r r) := h.as Nm.r fun hx px => by subst px; exact ⟨hx, rfl⟩
theorem dx_vdN {n : Nm C} (h : Dx X W e σ H (· = n)) : Dx X W e σ H (fun y : Vd C => y = n.vd) := h.as Nm.vd fun {H v x} hx px => by
  subst px
  cases x with
  | i n => exact ⟨hx, rfl⟩
  | r y => exact ⟨hx, rfl⟩
theorem dx_vdI {i : Int} (h : Dx X W e σ H (· = i)) : Dx X W e σ H (fun y : Vd C => y = .int i) := h.as Vd.int fun hx px => by subst px; exact ⟨hx, rfl⟩
theorem dx_vdB {i : Bool} (h : Dx X W e σ H (· = i)) : Dx X W e σ H (fun y : Vd C => y = .bl i) := h.as Vd.bl fun hx px => by subst px; exact ⟨hx, rfl⟩
theorem dx_vdS {i : Str} (h : Dx X W e σ H (· = i)) : Dx X W e σ H (fun y : Vd C => y = .str i) := h.as Vd.str fun hx px => by subst px; exact ⟨hx, rfl⟩
theorem dx_vdU {i : Unit} (h : Dx X W e σ H (· = i)) : Dx X W e σ H (fun y : Vd C => y = .non) := h.as (fun _ => Vd.non) fun hx px => ⟨hx, rfl⟩
theorem dx_vdR {i : Rt C} (h : Dx X W e σ H (· = i)) : Dx X W e σ H (fun y : Vd C => y = .rat i) := h.as Vd.rat fun hx px => by subst px; exact ⟨hx, rfl⟩
theorem dx_vdL {P : List α → Prop} (h : Dx X W e σ H P) : Dx X W e σ H (fun y : Vd C => y = .lst) := h.as (fun _ => Vd.lst) fun hx _ => by
  obtain ⟨p, us, e1, n, e2, _⟩ := hx
  exact ⟨⟨p, us, e1, n, e2⟩, rfl⟩
theorem dx_vdT {P : α × β → Prop} (h : Dx X W e σ H P) : Dx X W e σ H (fun y : Vd C => y = .tup) := h.as (fun _ => Vd.tup) fun hx _ => by
  obtain ⟨p, us, ws, e1, n, e2, _⟩ := hx
  exact ⟨⟨p, _, e1, n, e2⟩, rfl⟩
end

/-! ### isinstance -/
/-- what the class at C is to the built-in ones -/
structure Own (K : PySem.W.Frag) (C : Addr) : Prop where
  cl : Cls K C
  ha : PySem.W.findIn K (.ref C) "__class__" = some (some (.builtin "object.__class__"))
  hn : PySem.W.specialIn K (.builtin "object.__class__") "__get__" = some (some (.builtin "getset_descriptor.__get__"))
  htk : PySem.W.takesIn K (.builtin "object.__class__") = some true
  hm : PySem.W.mroIn K C (.type "object") = some true
  kint : PySem.W.kitOne K (.ref C) (.type "int") = some false
  kbl : PySem.W.kitOne K (.ref C) (.type "bool") = some false
  klst : PySem.W.kitOne K (.ref C) (.type "list") = some false
  ktup : PySem.W.kitOne K (.ref C) (.type "tuple") = some false
  self : PySem.W.kitOne K (.ref C) (.ref C) = some true
  ty : ∀ T ∈ ["int", "bool", "NoneType", "str", "list", "tuple", "dict"], PySem.W.kitOne K (.type T) (.ref C) = some false
def Vd.tyv {C : Addr} : Vd C → Value
  | .int _ => .type "int" | .bl _ => .type "bool" | .non => .type "NoneType" | .str _ => .type "str" | .rat _ => .ref C | .lst => .type "list" | .tup => .type "tuple" | .dct => .type "dict"
theorem ty_of {K : PySem.W.Frag} {C : Addr} (O : Own K C) {W : Wld} {H : Hp} {v : V} {x : Vd C} (h : Is W H v x) : TyX K H v x.tyv := by
  cases x with
  | int i => cases h; exact .base (.int i)
  | bl b => cases h; exact .base (.bl b)
  | non => cases h; exact .base .non
  | str z => cases h; exact .base (.str z)
  | rat r => obtain ⟨p, dx, rfl, n, e⟩ := h; exact .base (.ins e O.cl O.ha O.hn O.htk O.hm)
  | lst => obtain ⟨p, us, rfl, n, e⟩ := h; exact .base (.lst e)
  | tup => obtain ⟨p, us, rfl, n, e⟩ := h; exact .base (.tup e)
  | dct => obtain ⟨p, us, rfl, n, e⟩ := h; exact .base (.dK e)
def Vd.isInt {C : Addr} : Vd C → Bool
  | .int _ => true
  | .bl _ => true
  | _ => false
def Vd.isBl {C : Addr} : Vd C → Bool
  | .bl _ => true
  | _ => false
def Vd.isRat {C : Addr} : Vd C → Bool
  | .rat _ => true
  | _ => false
section
variable {X : Cx} {W : Wld} {σ : L2.St} {H : Hp} {pos p p2 : Pos} {e : Expr} {C : Addr} {x : Vd C}
theorem dx_isi {b : Bool} {c : V} {u : Value} {e2 : Expr} (O : Own X.K C) (h : Dx X W e σ H (· = x)) (pe2 : PE X e2 (tC c)) (hu : ClsV c u) (hk : ∀ t, TyX X.K H c t → True) (hm : X.mg "isinstance" = none)
    (kit : PySem.W.kitOne X.K x.tyv u = some b)
    (hg : Gl X "isinstance" := by rfl) (hs : starEach (e :: [e2]) X.env = (false, eval e X.env) :: starEach [e2] X.env := by rfl) (hs2 : starEach (e2 :: []) X.env = (false, eval e2 X.env) :: starEach [] X.env := by rfl) (hpl : (backTo pos (starEach [e2] X.env)).any (·.1) = false := by rfl) :
    Dx X W (.Call (.Name "isinstance" p) [e, e2] [] pos) σ H (· = b) := by
  obtain ⟨te, pe, ev⟩ := h
  refine ⟨_, pe_callB call_isi hg hm (by decide +kernel) (pa_cons pe (pa_cons pe2 pa_nil hs2) hs) (he := hs) (hpl := hpl), fun H1 u1 hI Q q => ev H1 u1 hI _ fun v H2 y u2 i2 hy py => ?_⟩
  subst py
  exact ⟨v, c, _, u, b, rfl, hu, ty_of O hy, kit, q _ H2 b u2 i2 rfl rfl⟩
theorem dx_isInt (O : Own X.K C) (h : Dx X W e σ H (· = x)) (hm : X.mg "isinstance" = none) (hi : X.mg "int" = none) (hg : Gl X "isinstance" := by rfl) (hgi : Gl X "int" := by rfl) (hs : starEach (e :: [.Name "int" p2]) X.env = (false, eval e X.env) :: starEach [.Name "int" p2] X.env := by rfl)
    (hs2 : starEach (.Name "int" p2 :: []) X.env = (false, eval (.Name "int" p2) X.env) :: starEach [] X.env := by rfl) (hpl : (backTo pos (starEach [.Name "int" p2] X.env)).any (·.1) = false := by rfl) :
    Dx X W (.Call (.Name "isinstance" p) [e, .Name "int" p2] [] pos) σ H (· = x.isInt) := by
  refine dx_isi O h (pe_bltn (v := .ty "int") (u := .type "int") hgi hi (by decide +kernel) rfl) (.ty "int") (fun _ _ => trivial) hm ?_ hg hs hs2 hpl
  cases x with
  | rat r => exact O.kint
  | int i => exact kit_ty (show kitB "int" "int" = some true by decide +kernel)
  | bl i => exact kit_ty (show kitB "bool" "int" = some true by decide +kernel)
  | non => exact kit_ty (show kitB "NoneType" "int" = some false by decide +kernel)
  | str i => exact kit_ty (show kitB "str" "int" = some false by decide +kernel)
  | lst => exact kit_ty (show kitB "list" "int" = some false by decide +kernel)
  | tup => exact kit_ty (show kitB "tuple" "int" = some false by decide +kernel)
  | dct => exact kit_ty (show kitB "dict" "int" = some false by decide +kernel)
theorem dx_isBl (O : Own X.K C) (h : Dx X W e σ H (· = x)) (hm : X.mg "isinstance" = none) (hi : X.mg "bool" = none) (hg : Gl X "isinstance" := by rfl) (hgi : Gl X "bool" := by rfl) (hs : starEach (e :: [.Name "bool" p2]) X.env = (false, eval e X.env) :: starEach [.Name "bool" p2] X.env := by rfl)
    (hs2 : starEach (.Name "bool" p2 :: []) X.env = (false, eval (.Name "bool" p2) X.env) :: starEach [] X.env := by rfl) (hpl : (backTo pos (starEach [.Name "bool" p2] X.env)).any (·.1) = false := by rfl) :
    Dx X W (.Call (.Name "isinstance" p) [e, .Name "bool" p2] [] pos) σ H (· = x.isBl) := by
  refine dx_isi O h (pe_bltn (v := .ty "bool") (u := .type "bool") hgi hi (by decide +kernel) rfl) (.ty "bool") (fun _ _ => trivial) hm ?_ hg hs hs2 hpl
  cases x with
  | rat r => exact O.kbl
  | int i => exact kit_ty (show kitB "int" "bool" = some false by decide +kernel)
  | bl i => exact kit_ty (show kitB "bool" "bool" = some true by decide +kernel)
  | non => exact kit_ty (show kitB "NoneType" "bool" = some false by decide +kernel)
  | str i => exact kit_ty (show kitB "str" "bool" = some false by decide +kernel)
  | lst => exact kit_ty (show kitB "list" "bool" = some false by decide +kernel)
  | tup => exact kit_ty (show kitB "tuple" "bool" = some false by decide +kernel)
  | dct => exact kit_ty (show kitB "dict" "bool" = some false by decide +kernel)
theorem dx_isRat {nm : Str} (O : Own X.K C) (h : Dx X W e σ H (· = x)) (hm : X.mg "isinstance" = none) (hi : X.mg nm = some (.ref C)) (hg : Gl X "isinstance" := by rfl) (hgi : Gl X nm := by rfl) (hs : starEach (e :: [.Name nm p2]) X.env = (false, eval e X.env) :: starEach [.Name nm p2] X.env := by rfl)
    (hs2 : starEach (.Name nm p2 :: []) X.env = (false, eval (.Name nm p2) X.env) :: starEach [] X.env := by rfl) (hpl : (backTo pos (starEach [.Name nm p2] X.env)).any (·.1) = false := by rfl) (hd : (nm == ("__debug__" : Str)) = false := by decide) :
    Dx X W (.Call (.Name "isinstance" p) [e, .Name nm p2] [] pos) σ H (· = x.isRat) := by
  refine dx_isi O h (pe_glob (v := .ref C) (u := .ref C) hgi hi rfl hd) (.own C) (fun _ _ => trivial) hm ?_ hg hs hs2 hpl
  cases x with
  | rat r => exact O.self
  | int i => exact O.ty _ (by decide)
  | bl i => exact O.ty _ (by decide)
  | non => exact O.ty _ (by decide)
  | str i => exact O.ty _ (by decide)
  | lst => exact O.ty _ (by decide)
  | tup => exact O.ty _ (by decide)
  | dct => exact O.ty _ (by decide)
end
end Inn

set_option Elab.async false
set_option linter.all false
set_option maxRecDepth 100000
set_option maxHeartbeats 4000000
namespace Inn
open PySem L2 PySem.Spec PyProof.Rows
open Dat (Is)

/-! ### Ratios: fields, properties, methods -/
theorem tb_ne : ¬ (("_top" : Str) = "_bottom") := by decide +kernel
theorem rfs_eq (t b : Int) : rfs t b = ([("_top", V.int t), ("_bottom", V.int b)] : List (Str × V)) := by
  show (if ("_top" : Str) = "_bottom" then [(("_top" : Str), V.int b)] else (("_top" : Str), V.int t) :: putF "_bottom" (V.int b) []) = _
  rw [if_neg tb_ne]
  all_goals rfl
theorem rfs_top (t b : Int) : (rfs t b).lookup ("_top" : Str) = some (.int t) := by
  unfold rfs
  rw [lookup_putF, if_neg tb_ne, lookup_putF, if_pos rfl]
theorem rfs_bottom (t b : Int) : (rfs t b).lookup ("_bottom" : Str) = some (.int b) := by
  unfold rfs
  rw [lookup_putF, if_pos rfl]
theorem rfs_no (t b : Int) {m : Str} (h1 : ¬ m = "_bottom") (h2 : ¬ m = "_top") : (rfs t b).lookup m = none := by
  unfold rfs
  rw [lookup_putF, if_neg h1, lookup_putF, if_neg h2]
  all_goals rfl

section
variable {X : Cx} {W : Wld} {σ : L2.St} {H : Hp} {pos p apos : Pos} {a b e o : Expr} {es : List Expr} {C : Addr} {r : Rt C} {nm : Str} {k : Nat} {ps : List Str} {α β A : Type} [Dat α] [Dat β] [DArgs A]
theorem dx_top (c : Cls X.K C) (n : NoAttr X.K C "_top") (h : Dx X W o σ H (· = r)) (hb : attributeBase o "_top" X.env (eval o X.env) = eval o X.env := by rfl) : Dx X W (.Attribute o "_top" pos) σ H (· = r.t) := by
  obtain ⟨te, pe, ev⟩ := h
  refine ⟨_, pe_fld pe hb, fun H1 u hI Q q => ev H1 u hI _ fun v H2 x u2 i2 hx px => ?_⟩
  subst px
  obtain ⟨p, dx, rfl, nm, e2⟩ := id hx
  exact ⟨p, C, dx, _, _, rfl, e2, c, n, rfs_top _ _, q _ H2 _ u2 i2 rfl rfl⟩
theorem dx_bot (c : Cls X.K C) (n : NoAttr X.K C "_bottom") (h : Dx X W o σ H (· = r)) (hb : attributeBase o "_bottom" X.env (eval o X.env) = eval o X.env := by rfl) : Dx X W (.Attribute o "_bottom" pos) σ H (· = r.b) := by
  obtain ⟨te, pe, ev⟩ := h
  refine ⟨_, pe_fld pe hb, fun H1 u hI Q q => ev H1 u hI _ fun v H2 x u2 i2 hx px => ?_⟩
  subst px
  obtain ⟨p, dx, rfl, nm, e2⟩ := id hx
  exact ⟨p, C, dx, _, _, rfl, e2, c, n, rfs_bottom _ _, q _ H2 _ u2 i2 rfl rfl⟩
theorem dx_prop {pre : Cns (Rt C) Nil → Prop} {R : Cns (Rt C) Nil → β → Prop} (c : Cls X.K C) (B : PDef X.prog X.w X.K X.mg X.base k C nm (SpF pre R)) (hr : Room (k + 1) X.A) (h : Dx X W o σ H (· = r)) (hp : pre ⟨r, ⟨⟩⟩)
    (hb : attributeBase o nm X.env (eval o X.env) = eval o X.env := by rfl) : Dx X W (.Attribute o nm pos) σ H (R ⟨r, ⟨⟩⟩) := by
  obtain ⟨p, g, fd, F, hp', hbi⟩ := B.ex
  obtain ⟨te, pe, ev⟩ := h
  refine ⟨_, pe_prop (E := E0) pe c hp' F hr hbi .nil pass0 hb, fun H1 u hI Q q => ev H1 u hI _ fun v H2 x u2 i2 hx px => ?_⟩
  subst px
  obtain ⟨q1, dx, rfl, nm, e2⟩ := id hx
  exact ⟨q1, dx, _, rfl, e2, W, ⟨x, ⟨⟩⟩, ⟨_, [], rfl, hx, rfl⟩, i2, hp, fun w H3 y u3 i3 hy ry => q w H3 y (u2.trans u3) i3 hy ry⟩
theorem dx_meth {x : A} {pre : Cns (Rt C) A → Prop} {R : Cns (Rt C) A → β → Prop} {pl : Sem Bool} (c : Cls X.K C) (B : MDef X.prog X.w X.K X.mg X.base k C nm ps (SpF pre R)) (hr : Room k X.A) (h : Dx X W o σ H (· = r)) (ha : Ax X W (e :: es) σ H (· = x)) (hp : pre ⟨r, x⟩)
    (h1 : ¬ nm = "_bottom" := by decide +kernel) (h2 : ¬ nm = "_top" := by decide +kernel)
    (hst : starEach (e :: es) X.env = (false, eval e X.env) :: starEach es X.env := by rfl) (hpl : (backTo pos (starEach es X.env)).any (·.1) = false := by rfl)
    (ht : eval (.Call (.Attribute o nm apos) (e :: es) [] pos) X.env = (do
      let ov ← eval o X.env
      standAt apos.atName
      let (f, first) ← holding [ov] (getMethod ov nm pl)
      callWith pos f first (backTo pos (starEach (e :: es) X.env)) (backToKw pos (keywordEach [] X.env))) := by rfl) : Dx X W (.Call (.Attribute o nm apos) (e :: es) [] pos) σ H (R ⟨r, x⟩) := by
  obtain ⟨f, fd, F, hm, hbi⟩ := B.ex
  obtain ⟨te, pe, ev⟩ := h
  obtain ⟨ta, pa, va⟩ := ha
  refine ⟨_, pe_meth (E := E0) pe c hm F hr hbi .nil pass0 pa hst hpl ht, fun H1 u hI Q q => ev H1 u hI _ fun v H2 y u2 i2 hy py => ?_⟩
  subst py
  obtain ⟨q1, dx, rfl, nm, e2⟩ := id hy
  refine ⟨q1, dx, _, rfl, e2, rfs_no _ _ h1 h2, va H2 (u.trans u2) i2 _ fun vs H3 z u3 i3 hz pz => ?_⟩
  subst pz
  rw [List.append_nil]
  exact ⟨W, ⟨y, z⟩, ⟨_, vs, rfl, Dat.up u3 hy, hz⟩, i3, hp, fun w H4 y' u4 i4 hy' ry => q w H4 y' ((u2.trans u3).trans u4) i4 hy' ry⟩
theorem dx_meth0 {pre : Cns (Rt C) Nil → Prop} {R : Cns (Rt C) Nil → β → Prop} {pl : Sem Bool} (c : Cls X.K C) (B : MDef X.prog X.w X.K X.mg X.base k C nm ps (SpF pre R)) (hr : Room k X.A) (h : Dx X W o σ H (· = r)) (hp : pre ⟨r, ⟨⟩⟩)
    (h1 : ¬ nm = "_bottom" := by decide +kernel) (h2 : ¬ nm = "_top" := by decide +kernel)
    (ht : eval (.Call (.Attribute o nm apos) [] [] pos) X.env = (do
      let ov ← eval o X.env
      standAt apos.atName
      let (f, first) ← holding [ov] (getMethod ov nm pl)
      callWith pos f first (backTo pos (starEach [] X.env)) (backToKw pos (keywordEach [] X.env))) := by rfl) : Dx X W (.Call (.Attribute o nm apos) [] [] pos) σ H (R ⟨r, ⟨⟩⟩) := by
  obtain ⟨f, fd, F, hm, hbi⟩ := B.ex
  obtain ⟨te, pe, ev⟩ := h
  refine ⟨_, pe_meth0 (E := E0) pe c hm F hr hbi .nil pass0 ht, fun H1 u hI Q q => ev H1 u hI _ fun v H2 y u2 i2 hy py => ?_⟩
  subst py
  obtain ⟨q1, dx, rfl, nm, e2⟩ := id hy
  exact ⟨q1, dx, _, rfl, e2, rfs_no _ _ h1 h2, W, ⟨y, ⟨⟩⟩, ⟨_, [], rfl, hy, rfl⟩, i2, hp, fun w H4 y' u4 i4 hy' ry => q w H4 y' (u2.trans u4) i4 hy' ry⟩

/-! ### made -/
/-- what __init__ makes of top and bottom -/
def mkS (t b : Int) : Int := if b > 0 then (Int.gcd t b : Int) else -(Int.gcd t b : Int)
def mk (C : Addr) (t b : Int) : Rt C := ⟨t.fdiv (mkS t b), b.fdiv (mkS t b)⟩
/-- small enough for any reckoning -/
def Sm (i : Int) : Prop := i.natAbs < 2 ^ 8000
def spInit (C : Addr) : Sp := fun vs H Q _ => ∃ p dx t b, vs = [.ref p, .int t, .int b] ∧ H p = some (.ins C dx []) ∧ b ≠ 0 ∧ Sm t ∧ Sm b ∧
  ∀ H', (∀ q o, q ≠ p → H q = some o → H' q = some o) → H' p = some (.ins C dx (rfs (mk C t b).t (mk C t b).b)) → Q .non H'
/-- the class: its name, its maker -/
structure CDef (P : Program) (w : World) (K : PySem.W.Frag) (mg : Str → Option Value) (base : Heap) (k : Nat) (C : Addr) (nm : Str) : Prop where
  ex : ∃ f fd, FnOk P w K mg base CX0 k f fd ["self", "top", "bottom"] (spInit C) ∧ Mk K C f ∧ mg nm = some (.ref C) ∧ Binds K fd ["self", "top", "bottom"] []
theorem made_ok {x dx : Addr} {t b : Int} {H1 : Hp} {Q : VK} {E : XK} (hI : W.I H1) (nx : H1 x = none) (ndx : H1 dx = none) (ne : dx ≠ x) (hb0 : b ≠ 0) (st : Sm t) (sb : Sm b)
    (q : ∀ H2, Up W H1 H2 → W.I H2 → Is W H2 (.ref x) (mk C t b) → Q (.ref x) H2) : spInit C (.ref x :: ([.int t, .int b] ++ [])) (upd (upd H1 dx (.own x)) x (.ins C dx [])) (fun v H2 => v = .non ∧ Q (.ref x) H2) E := by
  refine ⟨x, dx, t, b, rfl, upd_same, hb0, st, sb, fun H' keep hx => ⟨rfl, ?_⟩⟩
  have k1 : ∀ a o, H1 a = some o → H' a = some o := fun a o e => keep a o (ne_of_none e nx) (by rw [upd_ne (ne_of_none e nx), upd_ne (ne_of_none e ndx)]; exact e)
  refine q H' (fun a o _ e => k1 a o e) (W.st hI fun a m => ?_) ⟨x, dx, rfl, not_M hI nx, hx⟩
  obtain ⟨o, e⟩ := W.al hI m
  rw [e]
  exact k1 a o e
theorem dx_make {t b' : Int} (B : CDef X.prog X.w X.K X.mg X.base k C nm) (hr : Room (k + 1) X.A) (ha : Dx X W a σ H (· = t)) (hb : Dx X W b σ H (· = b')) (h0 : b' ≠ 0) (st : Sm t) (sb : Sm b') (hg : Gl X nm := by rfl) (hdb : (nm == ("__debug__" : Str)) = false := by decide)
    (he : starEach (a :: [b]) X.env = (false, eval a X.env) :: starEach [b] X.env := by rfl) (he2 : starEach (b :: []) X.env = (false, eval b X.env) :: starEach [] X.env := by rfl) (hpl : (backTo pos (starEach [b] X.env)).any (·.1) = false := by rfl) :
    Dx X W (.Call (.Name nm p) [a, b] [] pos) σ H (· = mk C t b') := by
  obtain ⟨f, fd, F, M, hm, hbi⟩ := B.ex
  obtain ⟨ta, pa, va⟩ := ha
  obtain ⟨tb, pb, vb⟩ := hb
  refine ⟨_, pe_make (E := E0) M F hr hg hm hbi .nil pass0 (pa_cons pa (pa_cons pb pa_nil he2) he) hdb he hpl, fun H1 u hI Q q => va H1 u hI _ fun v H2 x u2 i2 hx px => vb H2 (u.trans u2) i2 _ fun w H3 y u3 i3 hy py => ?_⟩
  subst px; subst py
  cases hx
  cases hy
  intro x1 dx1 nx ndx ne
  exact made_ok i3 nx ndx ne h0 st sb fun H4 u4 i4 h4 => q _ H4 _ ((u2.trans u3).trans u4) i4 h4 rfl

/-! ### operators of Ratios -/
structure OpF (K : PySem.W.Frag) (C : Addr) (op : Operator) (f fr : Addr) (ro : Option Value) (fo : Option Value) : Prop where
  sf : PySem.W.selfFirst K C = true
  at_ : PySem.W.findIn K (.ref C) (PySem.dunder op.info.2) = some (some (.ref f))
  isf : PySem.W.isFn K (.ref f) = true
  atR : PySem.W.findIn K (.ref C) (dunderR op.info.2) = some (some (.ref fr))
  isr : PySem.W.isFn K (.ref fr) = true
  i1 : PySem.W.findIn K (.type "int") (PySem.dunder op.info.2) = some fo
  i2 : PySem.W.findIn K (.type "int") (dunderR op.info.2) = some ro
  s1 : PySem.W.subIn K (.type "int") (.ref C) = some false
  s2 : PySem.W.subIn K (.ref C) (.type "int") = some false
/-- the operator's def; the reflected one -/
structure ODef (P : Program) (w : World) (K : PySem.W.Frag) (mg : Str → Option Value) (base : Heap) (k : Nat) (C : Addr) (op : Operator) (g : Rt C → Nm C → Rt C) (pre : Cns (Rt C) (Cns (Nm C) Nil) → Prop) : Prop where
  ex : ∃ f fr fd ro fo, OpF K C op f fr ro fo ∧ FnOk P w K mg base CX0 k f fd ["self", "other"] (SpF pre fun a y => y = g a.h a.t.h) ∧ Binds K fd ["self", "other"] []
structure RDef (P : Program) (w : World) (K : PySem.W.Frag) (mg : Str → Option Value) (base : Heap) (k : Nat) (C : Addr) (op : Operator) (gr : Rt C → Int → Rt C) (prer : Cns (Rt C) (Cns Int Nil) → Prop) : Prop where
  ex : ∃ f fr fdr ro fo, OpF K C op f fr ro fo ∧ FnOk P w K mg base CX0 k fr fdr ["self", "other"] (SpF prer fun a y => y = gr a.h a.t.h) ∧ Binds K fdr ["self", "other"] []
theorem relV_back {Q : VK} {pins : List (Addr × Obj)} {v : Value} {s : Shared} (h : EP X pins σ Q v s) : PySem.W.CmpBack (EP X pins σ Q) v s := by
  obtain ⟨x, H', I, r, q⟩ := id h
  cases v <;> first | exact h | (cases x <;> first | (cases r; done) | (obtain ⟨t, e⟩ := r; cases e))
variable {op : Operator} {g : Rt C → Nm C → Rt C} {pre : Cns (Rt C) (Cns (Nm C) Nil) → Prop} {gr : Rt C → Int → Rt C} {prer : Cns (Rt C) (Cns Int Nil) → Prop} {n : Nm C}
theorem dx_ownop (B : ODef X.prog X.w X.K X.mg X.base k C op g pre) (hr : Room k X.A) (ha : Dx X W a σ H (· = r)) (hb : Dx X W b σ H (· = n)) (hp : pre ⟨r, n, ⟨⟩⟩) : Dx X W (.BinOp a op b pos) σ H (· = g r n) := by
  obtain ⟨f, fr, fd, ro, fo, O, F, hbi⟩ := B.ex
  have ho : OpR X (binaryOp op) (fun x y H Q => ∃ (W : Wld) (r : Rt C) (n : Nm C), Is W H x r ∧ Is W H y n ∧ W.I H ∧ pre ⟨r, n, ⟨⟩⟩ ∧ ∀ u H', Up W H H' → W.I H' → Is W H' u (g r n) → Q u H') := by
    intro pins s σ H x y u v Q I rx ry ⟨W, r, n, hx, hy, hI, hp, q⟩
    obtain ⟨p1, dx, rfl, nM, e1⟩ := id hx
    cases rx
    obtain ⟨mA, J, _⟩ := ins_get I.hok e1
    obtain ⟨od, J, _⟩ := J.look
    obtain ⟨m, hF⟩ := I.fr
    have run : wpAny (model X.prog X.w) X.A (call (.ref f) [.ref p1, v]) (PySem.W.CmpBack (EP X pins σ Q)) X.xe s := by
      have z : SpF pre (fun a y => y = g a.h a.t.h) ([.ref p1, y] ++ []) H Q E0 := ⟨W, ⟨r, n, ⟨⟩⟩, ⟨_, _, rfl, hx, _, _, rfl, hy, rfl⟩, hI, hp, fun w H' y' u' i' hy' ey => q w H' u' i' (ey ▸ hy')⟩
      exact thn (run_fn (us := [.ref p1, v]) (vs := [.ref p1, y]) F hr hbi .nil pass0 I (.cons rfl (.cons ry .nil)) z) fun _ _ h => relV_back h
    cases n with
    | r y' =>
      obtain ⟨p2, dy, rfl, nM2, e2⟩ := id hy
      cases ry
      obtain ⟨mB, J', _⟩ := ins_get I.hok e2
      obtain ⟨od', J', _⟩ := J'.look
      exact PySem.W.binop_K hF I.ok.mod.kin J J'.type O.sf O.at_ O.isf run
    | i j =>
      cases hy
      obtain ⟨t, rfl⟩ := ry
      exact PySem.W.ksp_binT (T := "int") hF I.ok.mod.kin J rfl O.sf O.at_ O.isf O.atR (.inr ⟨_, rfl⟩) O.i1 O.i2 O.s1 run
  exact dx_op ho ha hb fun u v H1 x y Q _ hI hx hy px py q => by
    subst px; subst py
    exact ⟨W, x, y, hx, hy, hI, hp, fun w H2 u2 i2 h2 => q w H2 _ u2 i2 h2 rfl⟩
theorem dx_rown {j : Int} {idl : String} (B : RDef X.prog X.w X.K X.mg X.base k C op gr prer) (hr : Room k X.A) (ha : Dx X W a σ H (· = j)) (hb : Dx X W b σ H (· = r)) (hp : prer ⟨r, j, ⟨⟩⟩)
    (hfT : fillsNumberSlot (.type "int") op.info.2 = pure true) (slot : Slot "int" (PySem.dunder op.info.2) idl)
    (hd : ∀ (i : Int) (t : Tok) (l dx : Addr) (s : Shared) (Q : Value → Shared → Prop), s.heap.get? l = some (PySem.W.instObj C dx) → Q .notImplemented s → wpAny (model X.prog X.w) X.A (call (.builtin idl) [.int i t, .ref l]) Q X.xe s) :
    Dx X W (.BinOp a op b pos) σ H (· = gr r j) := by
  obtain ⟨f, fr, fdr, ro, fo, O, F, hbi⟩ := B.ex
  have ho : OpR X (binaryOp op) (fun x y H Q => ∃ (W : Wld) (r : Rt C) (j : Int), x = .int j ∧ Is W H y r ∧ W.I H ∧ prer ⟨r, j, ⟨⟩⟩ ∧ ∀ u H', Up W H H' → W.I H' → Is W H' u (gr r j) → Q u H') := by
    intro pins s σ H x y u v Q I rx ry ⟨W, r, j, hx, hy, hI, hp, q⟩
    subst hx
    obtain ⟨t, rfl⟩ := rx
    obtain ⟨p1, dx, rfl, nM, e1⟩ := id hy
    cases ry
    obtain ⟨mA, J, _⟩ := ins_get I.hok e1
    obtain ⟨od, J, _⟩ := J.look
    obtain ⟨_, _, _, e3, _⟩ := (show ObjOk X.prog X.w H s.heap p1 (.ins C dx _) from I.hok p1 _ e1)
    have run : wpAny (model X.prog X.w) X.A (call (.ref fr) [.ref p1, .int j t]) (PySem.W.CmpBack (EP X pins σ Q)) X.xe s := by
      have z : SpF prer (fun a y => y = gr a.h a.t.h) ([.ref p1, .int j] ++ []) H Q E0 := ⟨W, ⟨r, j, ⟨⟩⟩, ⟨_, _, rfl, hy, _, _, rfl, rfl, rfl⟩, hI, hp, fun w H' y' u' i' hy' ey => q w H' u' i' (ey ▸ hy')⟩
      exact thn (run_fn (us := [.ref p1, .int j t]) (vs := [.ref p1, .int j]) F hr hbi .nil pass0 I (.cons rfl (.cons ⟨t, rfl⟩ .nil)) z) fun _ _ h => relV_back h
    exact PySem.W.rop_int I.kIn J O.sf O.at_ O.atR O.isr O.s2 hfT slot (fun Q q => hd j t p1 dx s Q e3 q) run
  exact dx_op ho ha hb fun u v H1 x y Q _ hI hx hy px py q => by
    subst px; subst py
    exact ⟨W, y, x, hx, hy, hI, hp, fun w H2 u2 i2 h2 => q w H2 _ u2 i2 h2 rfl⟩
/-- -r -/
theorem dx_ownneg {f : Addr} {fd : FuncData} {g : Rt C → Rt C} {pre : Cns (Rt C) Nil → Prop} (hs : PySem.W.findIn X.K (.ref C) "__neg__" = some (some (.ref f))) (hf : PySem.W.isFn X.K (.ref f) = true) (F : FnOk X.prog X.w X.K X.mg X.base CX0 k f fd ["self"] (SpF pre fun a y => y = g a.h)) (hbi : Binds X.K fd ["self"] []) (hr : Room k X.A)
    (ha : Dx X W a σ H (· = r)) (hp : pre ⟨r, ⟨⟩⟩) : Dx X W (.UnaryOp .USub a pos) σ H (· = g r) := by
  have ho : UnR X (unaryOp .USub) (fun x H Q => ∃ (W : Wld) (r : Rt C), Is W H x r ∧ W.I H ∧ pre ⟨r, ⟨⟩⟩ ∧ ∀ u H', Up W H H' → W.I H' → Is W H' u (g r) → Q u H') := by
    intro pins s σ H x u Q I rx ⟨W, r, hx, hI, hp, q⟩
    obtain ⟨p1, dx, rfl, nM, e1⟩ := id hx
    cases rx
    obtain ⟨mA, J, _⟩ := ins_get I.hok e1
    obtain ⟨od, J, _⟩ := J.look
    obtain ⟨m, hF⟩ := I.fr
    refine PySem.W.ksp_neg hF I.ok.mod.kin J hs hf ?_
    exact run_fn (us := [.ref p1]) (vs := [.ref p1]) (E := E0) F hr hbi .nil pass0 I (.cons rfl .nil) ⟨W, ⟨r, ⟨⟩⟩, ⟨_, _, rfl, hx, rfl⟩, hI, hp, fun w H' y' u' i' hy' ey => q w H' u' i' (ey ▸ hy')⟩
  obtain ⟨ta, pa, va⟩ := ha
  refine ⟨_, pe_un ho pa, fun H1 u hI Q q => va H1 u hI _ fun v H2 x u2 i2 hx px => ?_⟩
  subst px
  exact ⟨W, x, hx, i2, hp, fun w H3 u3 i3 h3 => q w H3 _ (u2.trans u3) i3 h3 rfl⟩
end
section
variable {X : Cx} {W : Wld} {σ : L2.St} {H : Hp} {pos : Pos} {a b : Expr} {C : Addr} {r : Rt C} {k : Nat} {g : Rt C → Nm C → Rt C} {pre : Cns (Rt C) (Cns (Nm C) Nil) → Prop} {gr : Rt C → Int → Rt C} {prer : Cns (Rt C) (Cns Int Nil) → Prop} {j : Int}
theorem dx_radd (B : RDef X.prog X.w X.K X.mg X.base k C .Add gr prer) (hr : Room k X.A) (ha : Dx X W a σ H (· = j)) (hb : Dx X W b σ H (· = r)) (hp : prer ⟨r, j, ⟨⟩⟩) : Dx X W (.BinOp a .Add b pos) σ H (· = gr r j) :=
  dx_rown B hr ha hb hp F.fills_int_add F.slot_int_add fun i t l dx s Q e q => call_meets F.slot_int_add (typeIs_int s i t) F.entry_int_add (F.args_int_add_2 _ _) (PySem.own_int_add i t l C dx) ⟨e, q⟩
theorem dx_rsub (B : RDef X.prog X.w X.K X.mg X.base k C .Sub gr prer) (hr : Room k X.A) (ha : Dx X W a σ H (· = j)) (hb : Dx X W b σ H (· = r)) (hp : prer ⟨r, j, ⟨⟩⟩) : Dx X W (.BinOp a .Sub b pos) σ H (· = gr r j) :=
  dx_rown B hr ha hb hp F.fills_int_sub F.slot_int_sub fun i t l dx s Q e q => call_meets F.slot_int_sub (typeIs_int s i t) F.entry_int_sub (F.args_int_sub_2 _ _) (PySem.own_int_sub i t l C dx) ⟨e, q⟩
theorem dx_rmul (B : RDef X.prog X.w X.K X.mg X.base k C .Mult gr prer) (hr : Room k X.A) (ha : Dx X W a σ H (· = j)) (hb : Dx X W b σ H (· = r)) (hp : prer ⟨r, j, ⟨⟩⟩) : Dx X W (.BinOp a .Mult b pos) σ H (· = gr r j) :=
  dx_rown B hr ha hb hp F.fills_int_mul F.slot_int_mul fun i t l dx s Q e q => call_meets F.slot_int_mul (typeIs_int s i t) F.entry_int_mul (F.args_int_mul_2 _ _) (PySem.own_int_mul i t l C dx) ⟨e, q⟩
end
end Inn

set_option Elab.async false
set_option linter.all false
set_option maxRecDepth 100000
set_option maxHeartbeats 4000000
namespace Inn
open PySem L2 PySem.Spec PyProof.Rows
open Dat (Is)
section
variable {X : Cx} {W : Wld} {σ : L2.St} {H : Hp} {pos p apos : Pos} {a b e o : Expr} {es : List Expr} {C : Addr} {r : Rt C} {nm : Str} {k : Nat} {ps : List Str} {α β A : Type} [Dat α] [Dat β] [DArgs A]

/-! ### == of Ratios -/
def eqRV (r : Rt C) : Vd C → Bool
  | .rat y => decide (r.t = y.t) && decide (r.b = y.b)
  | _ => false
structure EqF (K : PySem.W.Frag) (C : Addr) (f : Addr) : Prop where
  at_ : PySem.W.findIn K (.ref C) "__eq__" = some (some (.ref f))
  isf : PySem.W.isFn K (.ref f) = true
  ne : PySem.W.findIn K (.ref C) "__ne__" = some (some (.builtin "object.__ne__"))
  hm : PySem.W.mroIn K C (.type "object") = some true
  sub : ∀ T ∈ ["int", "NoneType", "str"], PySem.W.subIn K (.type T) (.ref C) = some false
  s2 : PySem.W.subIn K (.ref C) (.type "int") = some false
structure EDef (P : Program) (w : World) (K : PySem.W.Frag) (mg : Str → Option Value) (base : Heap) (k : Nat) (C : Addr) : Prop where
  ex : ∃ f fd, EqF K C f ∧ FnOk P w K mg base CX0 k f fd ["self", "other"] (SpF (fun _ : Cns (Rt C) (Cns (Vd C) Nil) => True) fun a y => y = eqRV a.h a.t.h) ∧ Binds K fd ["self", "other"] []
/-- kinds that == of a Ratio is asked with -/
def Vd.easy : Vd C → Bool
  | .int _ => true
  | .non => true
  | .str _ => true
  | .rat _ => true
  | _ => false
theorem looks_vd {K : PySem.W.Frag} {pins : List (Addr × Obj)} {s : Shared} {v : V} {u : Value} {x : Vd C} (I : Inv X pins σ H s) (hx : Is W H v x) (rv : RelV v u) (he : x.easy = true) : PySem.W.Looks (model X.prog X.w) s.heap (typeOf u) x.tyv := by
  cases x with
  | int i => cases hx; obtain ⟨t, rfl⟩ := rv; exact .of_pure rfl
  | non => cases hx; cases rv; exact .of_pure rfl
  | str z => cases hx; obtain ⟨t, rfl⟩ := rv; exact .of_pure rfl
  | rat r =>
    obtain ⟨p1, dx, rfl, nM, e1⟩ := id hx
    cases rv
    obtain ⟨mA, J, _⟩ := ins_get I.hok e1
    obtain ⟨od, J, _⟩ := J.look
    exact J.type
  | bl b => cases he
  | lst => cases he
  | tup => cases he
  | dct => cases he
theorem notFirst_vd {K : PySem.W.Frag} {f : Addr} (E : EqF K C f) {x : Vd C} (he : x.easy = true) : PySem.W.notFirst K C x.tyv = true := by
  unfold PySem.W.notFirst
  cases x with
  | int i => show (_ || PySem.W.subIn K (.type "int") (.ref C) == some false) = true; rw [E.sub "int" (by decide)]; simp
  | non => show (_ || PySem.W.subIn K (.type "NoneType") (.ref C) == some false) = true; rw [E.sub "NoneType" (by decide)]; simp
  | str z => show (_ || PySem.W.subIn K (.type "str") (.ref C) == some false) = true; rw [E.sub "str" (by decide)]; simp
  | rat r => show (Value.ref C == Value.ref C || _) = true; simp
  | bl b => cases he
  | lst => cases he
  | tup => cases he
  | dct => cases he
def rEqOwn (C : Addr) (neg : Bool) : R2 := fun x y H Q => ∃ (W : Wld) (r : Rt C) (v : Vd C), Is W H x r ∧ Is W H y v ∧ W.I H ∧ v.easy = true ∧ ∀ H', Up W H H' → W.I H' → Q (.bl (if neg = true then !eqRV r v else eqRV r v)) H'
theorem op_eqOwn (B : EDef X.prog X.w X.K X.mg X.base k C) (hr : Room k X.A) : OpR X (compareOp .Eq) (rEqOwn C false) := by
  obtain ⟨f, fd, E, F, hbi⟩ := B.ex
  intro pins s σ H x y u v Q I rx ry ⟨W, r, n, hx, hy, hI, he, q⟩
  have lk := looks_vd (K := X.K) I hy ry he
  obtain ⟨p1, dx, rfl, nM, e1⟩ := id hx
  cases rx
  obtain ⟨mA, J, _⟩ := ins_get I.hok e1
  obtain ⟨od, J, _⟩ := J.look
  obtain ⟨m, hF⟩ := I.fr
  refine PySem.W.cmp_K (op := .Eq) hr.units0 hF I.ok.mod.kin J lk (notFirst_vd E he) E.at_ E.isf ?_
  have z : SpF (fun _ : Cns (Rt C) (Cns (Vd C) Nil) => True) (fun a y => y = eqRV a.h a.t.h) ([.ref p1, y] ++ []) H Q E0 := ⟨W, ⟨r, n, ⟨⟩⟩, ⟨_, _, rfl, hx, _, _, rfl, hy, rfl⟩, hI, trivial, fun w H' y' u' i' hy' ey => by
    cases hy'
    subst ey
    exact q H' u' i'⟩
  exact thn (run_fn (us := [.ref p1, v]) (vs := [.ref p1, y]) F hr hbi .nil pass0 I (.cons rfl (.cons ry .nil)) z) fun _ _ h => relV_back h
theorem op_neOwn (B : EDef X.prog X.w X.K X.mg X.base k C) (hr : Room (k + 1) X.A) : OpR X (compareOp .NotEq) (rEqOwn C true) := by
  obtain ⟨f, fd, E, F, hbi⟩ := B.ex
  intro pins s σ H x y u v Q I rx ry ⟨W, r, n, hx, hy, hI, he, q⟩
  have lk := looks_vd (K := X.K) I hy ry he
  obtain ⟨p1, dx, rfl, nM, e1⟩ := id hx
  cases rx
  obtain ⟨mA, J, _⟩ := ins_get I.hok e1
  obtain ⟨od, J, _⟩ := J.look
  refine PySem.W.ne_K (by have := hr.un; omega) I.kIn J lk (notFirst_vd E he) E.ne E.hm E.at_ E.isf ?_
  have z : SpF (fun _ : Cns (Rt C) (Cns (Vd C) Nil) => True) (fun a y => y = eqRV a.h a.t.h) ([.ref p1, y] ++ []) H (fun w H' => w = .bl (eqRV r n) ∧ Up W H H' ∧ W.I H') E0 := ⟨W, ⟨r, n, ⟨⟩⟩, ⟨_, _, rfl, hx, _, _, rfl, hy, rfl⟩, hI, trivial, fun w H' y' u' i' hy' ey => by
    cases hy'
    subst ey
    exact ⟨rfl, u', i'⟩⟩
  have hl := F.len _ _ _ _ z
  have r2 : Vals [V.ref p1, y] [Value.ref p1, v] := .cons rfl (.cons ry .nil)
  refine wpAny_call (codeAny_mono (F.run X.A.in1 X.stack s H ⟨[.ref p1, v], []⟩ [.ref p1, v] [.ref p1, y] _ E0 hr.in1 I.env0.in1 (by
    have h := hbi s [.ref p1, v] I.kIn (by simpa using hl)
    simpa using h) r2 z) fun rr s' hq => ?_)
  cases rr with
  | error e => exact False.elim hq
  | ok fl =>
    cases fl with
    | ret w =>
      obtain ⟨z, H', I', rz, ez, ex, iz⟩ := I.after hq
      subst ez
      cases rz
      exact ⟨_, rfl, .bl (!eqRV r n), H', I', rfl, q H' ex iz⟩
    | next => exact False.elim hq
    | brk => exact False.elim hq
    | cont => exact False.elim hq
theorem ev_eqOwn {neg : Bool} {v : Vd C} {ta tb : TE} (va : Ev W ta σ H (· = r)) (vb : Ev W tb σ H (· = v)) (he : v.easy = true) : Ev W (tOp (rEqOwn C neg) ta tb) σ H (· = if neg = true then !eqRV r v else eqRV r v) :=
  fun H1 u hI Q q => va H1 u hI _ fun x H2 x' u2 i2 hx px => vb H2 (u.trans u2) i2 _ fun y H3 y' u3 i3 hy py => by
    subst px; subst py
    exact ⟨W, _, _, Dat.up u3 hx, hy, i3, he, fun H4 u4 i4 => q _ H4 _ ((u2.trans u3).trans u4) i4 rfl rfl⟩
theorem dx_eqOwn {v : Vd C} (B : EDef X.prog X.w X.K X.mg X.base k C) (hr : Room k X.A) (ha : Dx X W a σ H (· = r)) (hb : Dx X W b σ H (· = v)) (he : v.easy = true) : Dx X W (.Compare a [.Eq] [b] pos) σ H (· = eqRV r v) := let ⟨_, pa, va⟩ := ha; let ⟨_, pb, vb⟩ := hb; ⟨_, pe_cmpR (op_eqOwn B hr) pa pb (nomark _), ev_eqOwn (neg := false) va vb he⟩
theorem dx_neOwn {v : Vd C} (B : EDef X.prog X.w X.K X.mg X.base k C) (hr : Room (k + 1) X.A) (ha : Dx X W a σ H (· = r)) (hb : Dx X W b σ H (· = v)) (he : v.easy = true) : Dx X W (.Compare a [.NotEq] [b] pos) σ H (· = !eqRV r v) := let ⟨_, pa, va⟩ := ha; let ⟨_, pb, vb⟩ := hb; ⟨_, pe_cmpR (op_neOwn B hr) pa pb (nomark _), ev_eqOwn (neg := true) va vb he⟩
theorem tx_neOwn {v : Vd C} (B : EDef X.prog X.w X.K X.mg X.base k C) (hr : Room (k + 1) X.A) (ha : Dx X W a σ H (· = r)) (hb : Dx X W b σ H (· = v)) (he : v.easy = true) : Tx X W (.Compare a [.NotEq] [b] pos) σ H (· = !eqRV r v) := let ⟨_, pa, va⟩ := ha; let ⟨_, pb, vb⟩ := hb; ⟨_, pt_cmpR (op_neOwn B hr) pa pb (nomark _), ev_test (ev_eqOwn (neg := true) va vb he)⟩
/-- int == Ratio -/
theorem dx_eqIntOwn {j : Int} (B : EDef X.prog X.w X.K X.mg X.base k C) (hr : Room k X.A) (ha : Dx X W a σ H (· = j)) (hb : Dx X W b σ H (· = r)) : Dx X W (.Compare a [.Eq] [b] pos) σ H (· = false) := by
  obtain ⟨f, fd, E, F, hbi⟩ := B.ex
  have ho : OpR X (compareOp .Eq) (fun x y H Q => ∃ (W : Wld) (r : Rt C) (j : Int), x = .int j ∧ Is W H y r ∧ W.I H ∧ ∀ H', Up W H H' → W.I H' → Q (.bl false) H') := by
    intro pins s σ H x y u v Q I rx ry ⟨W, r, j, hx, hy, hI, q⟩
    subst hx
    obtain ⟨t, rfl⟩ := rx
    obtain ⟨p1, dx, rfl, nM, e1⟩ := id hy
    cases ry
    obtain ⟨mA, J, _⟩ := ins_get I.hok e1
    obtain ⟨od, J, _⟩ := J.look
    obtain ⟨_, _, _, e3, _⟩ := (show ObjOk X.prog X.w H s.heap p1 (.ins C dx _) from I.hok p1 _ e1)
    have run : wpAny (model X.prog X.w) X.A (call (.ref f) [.ref p1, .int j t]) (PySem.W.CmpBack (EP X pins σ Q)) X.xe s := by
      have z : SpF (fun _ : Cns (Rt C) (Cns (Vd C) Nil) => True) (fun a y => y = eqRV a.h a.t.h) ([.ref p1, .int j] ++ []) H Q E0 := ⟨W, ⟨r, .int j, ⟨⟩⟩, ⟨_, _, rfl, hy, _, _, rfl, rfl, rfl⟩, hI, trivial, fun w H' y' u' i' hy' ey => by
        cases hy'
        subst ey
        exact q H' u' i'⟩
      exact thn (run_fn (us := [.ref p1, .int j t]) (vs := [.ref p1, .int j]) F hr hbi .nil pass0 I (.cons rfl (.cons ⟨t, rfl⟩ .nil)) z) fun _ _ h => relV_back h
    refine PySem.W.eq_int_own hr.units0 I.kIn J E.at_ E.isf E.s2 (fun Q q => ?_) run
    exact call_meets PySem.F.slot_int_eq (typeIs_int s j t) PySem.F.entry_int_eq (PySem.F.args_int_eq_2 _ _) (PySem.own_int_eq j t p1 C dx) ⟨e3, q⟩
  obtain ⟨ta, pa, va⟩ := ha
  obtain ⟨tb, pb, vb⟩ := hb
  refine ⟨_, pe_cmpR ho pa pb (nomark _), fun H1 u hI Q q => va H1 u hI _ fun x H2 x' u2 i2 hx px => vb H2 (u.trans u2) i2 _ fun y H3 y' u3 i3 hy py => ?_⟩
  subst px; subst py
  exact ⟨W, _, _, hx, hy, i3, fun H4 u4 i4 => q _ H4 false ((u2.trans u3).trans u4) i4 rfl rfl⟩

/-! ### str, repr of Ratios -/
structure SDef (P : Program) (w : World) (K : PySem.W.Frag) (mg : Str → Option Value) (base : Heap) (k : Nat) (C : Addr) (nm : Str) (g : Rt C → Str) (pre : Rt C → Prop) : Prop where
  ex : ∃ f fd, PySem.W.findIn K (.ref C) nm = some (some (.ref f)) ∧ PySem.W.isFn K (.ref f) = true ∧ FnOk P w K mg base CX0 k f fd ["self"] (SpF (fun a : Cns (Rt C) Nil => pre a.h) fun a y => y = g a.h) ∧ Binds K fd ["self"] []
variable {g : Rt C → Str} {pre : Rt C → Prop}
theorem own_text {A' : Around} (F : ∃ f fd, PySem.W.findIn X.K (.ref C) nm = some (some (.ref f)) ∧ PySem.W.isFn X.K (.ref f) = true ∧ FnOk X.prog X.w X.K X.mg X.base CX0 k f fd ["self"] (SpF (fun a : Cns (Rt C) Nil => pre a.h) fun a y => y = g a.h) ∧ Binds X.K fd ["self"] [])
    (hr : Room k A') (fr : A'.frames = X.A.frames) {pins : List (Addr × Obj)} {s : Shared} {v : V} {u : Value} {Q : VK} (I : Inv X pins σ H s) (hx : Is W H v r) (rv : RelV v u) (hI : W.I H) (hp : pre r) (q : ∀ H', Up W H H' → W.I H' → Q (.str (g r)) H') :
    ∃ (f : Addr) (p1 : Addr) (od : Obj) (ox : Obj), PySem.W.findIn X.K (.ref C) nm = some (some (.ref f)) ∧ PySem.W.isFn X.K (.ref f) = true ∧ u = .ref p1 ∧ PySem.W.InstAt s.heap p1 ox C (some od) ∧ wpAny (model X.prog X.w) A' (call (.ref f) [.ref p1]) (PySem.W.StrBack (EP X pins σ Q)) X.xe s := by
  obtain ⟨f, fd, hs, hf, F, hbi⟩ := F
  obtain ⟨p1, dx, rfl, nM, e1⟩ := id hx
  cases rv
  obtain ⟨mA, J, _⟩ := ins_get I.hok e1
  obtain ⟨od, J, _⟩ := J.look
  refine ⟨f, p1, od, _, hs, hf, rfl, J, ?_⟩
  have z : SpF (fun a : Cns (Rt C) Nil => pre a.h) (fun a y => y = g a.h) [.ref p1] H (fun w H' => w = .str (g r) ∧ Up W H H' ∧ W.I H') E0 := ⟨W, ⟨r, ⟨⟩⟩, ⟨_, _, rfl, hx, rfl⟩, hI, hp, fun w H' y' u' i' hy' ey => by
    cases hy'
    subst ey
    exact ⟨rfl, u', i'⟩⟩
  have hl := F.len _ _ _ _ z
  have e0 : Env0 X.prog X.w X.K X.mg X.base A' X.stack s H := by
    have e := I.env0
    exact ⟨by rw [fr]; exact e.frames, e.mod, e.bs, e.bsz, e.funs, e.frf, e.hok, e.bare⟩
  refine wpAny_call (codeAny_mono (F.run A' X.stack s H ⟨[.ref p1], []⟩ [.ref p1] [.ref p1] _ E0 hr e0 (by
    have h := hbi s [.ref p1] I.kIn (by simpa using hl)
    simpa using h) (.cons rfl .nil) z) fun rr s' hq => ?_)
  cases rr with
  | error e => exact False.elim hq
  | ok fl =>
    cases fl with
    | ret w =>
      obtain ⟨z, H', I', rz, ez, ex, iz⟩ := I.after hq
      subst ez
      obtain ⟨t, rfl⟩ := rz
      exact ⟨.str (g r), H', I', ⟨t, rfl⟩, q H' ex iz⟩
    | next => exact False.elim hq
    | brk => exact False.elim hq
    | cont => exact False.elim hq
theorem dx_strOwn (B : SDef X.prog X.w X.K X.mg X.base k C "__str__" g pre) (hr : Room (k + 2) X.A) (h : Dx X W e σ H (· = r)) (hp : pre r) (hm : X.mg "str" = none) (hg : Gl X "str" := by rfl)
    (hs : starEach (e :: []) X.env = (false, eval e X.env) :: starEach [] X.env := by rfl) (hpl : (backTo pos (starEach [] X.env)).any (·.1) = false := by rfl) : Dx X W (.Call (.Name "str" p) [e] [] pos) σ H (· = g r) := by
  have hc : CallR X (.type "str") (fun vs H Q => ∃ (W : Wld) (r : Rt C) (v : V), vs = [v] ∧ Is W H v r ∧ W.I H ∧ pre r ∧ ∀ H', Up W H H' → W.I H' → Q (.str (g r)) H') := by
    intro pins s σ H vs us Q I rv ⟨W, r, v, e1, hx, hI, hp, q⟩
    subst e1
    cases rv with
    | cons rv rn =>
      cases rn
      have hr2 : Room k X.A.in1.in1 := hr.in1.in1
      obtain ⟨f, p1, od, ox, hs, hf, rfl, J, run⟩ := own_text B.ex hr2 rfl I hx rv hI hp q
      exact PySem.W.kso_call hr2.units0 I.kIn J hs hf run
  obtain ⟨te, pe, ev⟩ := h
  refine ⟨_, pe_callTy hc hg hm (by decide +kernel) (pa_cons pe pa_nil hs) (he := hs) (hpl := hpl), fun H1 u hI Q q => ev H1 u hI _ fun v H2 x u2 i2 hx px => ?_⟩
  subst px
  exact ⟨W, x, v, rfl, hx, i2, hp, fun H3 u3 i3 => q _ H3 _ (u2.trans u3) i3 rfl rfl⟩
theorem dx_reprOwn (B : SDef X.prog X.w X.K X.mg X.base k C "__repr__" g pre) (hr : Room (k + 1) X.A) (h : Dx X W e σ H (· = r)) (hp : pre r) (hm : X.mg "repr" = none) (hg : Gl X "repr" := by rfl)
    (hs : starEach (e :: []) X.env = (false, eval e X.env) :: starEach [] X.env := by rfl) (hpl : (backTo pos (starEach [] X.env)).any (·.1) = false := by rfl) : Dx X W (.Call (.Name "repr" p) [e] [] pos) σ H (· = g r) := by
  have hc : CallR X (.builtin "repr") (fun vs H Q => ∃ (W : Wld) (r : Rt C) (v : V), vs = [v] ∧ Is W H v r ∧ W.I H ∧ pre r ∧ ∀ H', Up W H H' → W.I H' → Q (.str (g r)) H') := by
    intro pins s σ H vs us Q I rv ⟨W, r, v, e1, hx, hI, hp, q⟩
    subst e1
    cases rv with
    | cons rv rn =>
      cases rn
      obtain ⟨f, p1, od, ox, hs, hf, rfl, J, run⟩ := own_text B.ex hr.in1 rfl I hx rv hI hp q
      obtain ⟨m, hF⟩ := I.fr
      exact PySem.W.repr_K hr.in1.units0 hF I.ok.mod.kin J hs hf run
  obtain ⟨te, pe, ev⟩ := h
  refine ⟨_, pe_callB hc hg hm (by decide +kernel) (pa_cons pe pa_nil hs) (he := hs) (hpl := hpl), fun H1 u hI Q q => ev H1 u hI _ fun v H2 x u2 i2 hx px => ?_⟩
  subst px
  exact ⟨W, x, v, rfl, hx, i2, hp, fun H3 u3 i3 => q _ H3 _ (u2.trans u3) i3 rfl rfl⟩
end
end Inn

set_option Elab.async false
set_option linter.all false
set_option maxRecDepth 100000
set_option maxHeartbeats 4000000
namespace Inn
open PySem L2 PySem.Spec PyProof.Rows
open Dat (Is)
section
variable {X : Cx} {W : Wld} {σ : L2.St} {H : Hp} {pos p apos : Pos} {a b e o : Expr} {es : List Expr} {nm : Str} {k : Nat} {α β A : Type} [Dat α] [Dat β] [DArgs A]

/-! ### built-ins -/
theorem dx_cb1 {id : String} {r : List V → Hp → VK → Prop} {P : α → Prop} {S : β → Prop} (hc : CallR X (.builtin id) r) (h : Dx X W e σ H P) (hm : X.mg nm = none) (hv : bootBuiltins nm = some (.builtin id))
    (hr : ∀ v H1 x (Q : VK), Up W H H1 → W.I H1 → Is W H1 v x → P x → (∀ w H2 y, Up W H1 H2 → W.I H2 → Is W H2 w y → S y → Q w H2) → r [v] H1 Q) (hg : Gl X nm := by rfl) (hn : nm ≠ "__name__" := by decide) (hdb : (nm == ("__debug__" : Str)) = false := by decide)
    (hs : starEach (e :: []) X.env = (false, eval e X.env) :: starEach [] X.env := by rfl) (hpl : (backTo pos (starEach [] X.env)).any (·.1) = false := by rfl) : Dx X W (.Call (.Name nm p) [e] [] pos) σ H S := by
  obtain ⟨te, pe, ev⟩ := h
  exact ⟨_, pe_callB hc hg hm hv (pa_cons pe pa_nil hs) hn hdb hs hpl, fun H1 u hI Q q => ev H1 u hI _ fun v H2 x u2 i2 hx px => hr v H2 x Q (u.trans u2) i2 hx px fun w H3 y u3 i3 hy sy => q w H3 y (u2.trans u3) i3 hy sy⟩
theorem dx_cb2 {γ : Type} [Dat γ] {id : String} {r : List V → Hp → VK → Prop} {P : α → Prop} {P2 : γ → Prop} {S : β → Prop} (hc : CallR X (.builtin id) r) (h : Dx X W a σ H P) (h2 : Dx X W b σ H P2) (hm : X.mg nm = none) (hv : bootBuiltins nm = some (.builtin id))
    (hr : ∀ v w H1 x z (Q : VK), Up W H H1 → W.I H1 → Is W H1 v x → Is W H1 w z → P x → P2 z → (∀ w H2 y, Up W H1 H2 → W.I H2 → Is W H2 w y → S y → Q w H2) → r [v, w] H1 Q) (hg : Gl X nm := by rfl) (hn : nm ≠ "__name__" := by decide) (hdb : (nm == ("__debug__" : Str)) = false := by decide)
    (hs : starEach (a :: [b]) X.env = (false, eval a X.env) :: starEach [b] X.env := by rfl) (hs2 : starEach (b :: []) X.env = (false, eval b X.env) :: starEach [] X.env := by rfl) (hpl : (backTo pos (starEach [b] X.env)).any (·.1) = false := by rfl) : Dx X W (.Call (.Name nm p) [a, b] [] pos) σ H S := by
  obtain ⟨te, pe, ev⟩ := h
  obtain ⟨tb, pb, vb⟩ := h2
  exact ⟨_, pe_callB hc hg hm hv (pa_cons pe (pa_cons pb pa_nil hs2) hs) hn hdb hs hpl, fun H1 u hI Q q => ev H1 u hI _ fun v H2 x u2 i2 hx px => vb H2 (u.trans u2) i2 _ fun w H3 z u3 i3 hz pz => hr v w H3 x z Q ((u.trans u2).trans u3) i3 (Dat.up u3 hx) hz px pz fun w' H4 y u4 i4 hy sy => q w' H4 y ((u2.trans u3).trans u4) i4 hy sy⟩
theorem dx_abs {i : Int} (h : Dx X W e σ H (· = i)) (hm : X.mg "abs" = none) (hg : Gl X "abs" := by rfl) (hs : starEach (e :: []) X.env = (false, eval e X.env) :: starEach [] X.env := by rfl) (hpl : (backTo pos (starEach [] X.env)).any (·.1) = false := by rfl) :
    Dx X W (.Call (.Name "abs" p) [e] [] pos) σ H (fun x : Int => x = if i < 0 then -i else i) := dx_cb1 call_abs h hm (by decide +kernel) (fun v H1 x Q _ hI hx px q => by
  subst px
  exact ⟨x, by rw [show v = V.int x from hx], q _ H1 _ (Up.refl _) hI rfl rfl⟩) hg (hs := hs) (hpl := hpl)
theorem dx_max2P {i : Int} {P : Int → Prop} (hc : X.calm = true) (ha : Dx X W a σ H (· = i)) (hb : Dx X W b σ H P) (hm : X.mg "max" = none) (hg : Gl X "max" := by rfl) (hs : starEach (a :: [b]) X.env = (false, eval a X.env) :: starEach [b] X.env := by rfl) (hs2 : starEach (b :: []) X.env = (false, eval b X.env) :: starEach [] X.env := by rfl) (hpl : (backTo pos (starEach [b] X.env)).any (·.1) = false := by rfl) :
    Dx X W (.Call (.Name "max" p) [a, b] [] pos) σ H (fun x : Int => ∃ j, P j ∧ x = if j > i then j else i) := dx_cb2 (call_max2 hc) ha hb hm (by decide +kernel) (fun v w H1 x z Q _ hI hx hz px pz q => by
  subst px
  exact ⟨x, z, by rw [show v = V.int x from hx, show w = V.int z from hz], q _ H1 _ (Up.refl _) hI rfl ⟨z, pz, rfl⟩⟩) hg (hs := hs) (hs2 := hs2) (hpl := hpl)
theorem dx_ty1 {T : String} {r : List V → Hp → VK → Prop} {P : α → Prop} {S : β → Prop} (hc : CallR X (.type T) r) (h : Dx X W e σ H P) (hm : X.mg nm = none) (hv : bootBuiltins nm = some (.type T))
    (hr : ∀ v H1 x (Q : VK), Up W H H1 → W.I H1 → Is W H1 v x → P x → (∀ w H2 y, Up W H1 H2 → W.I H2 → Is W H2 w y → S y → Q w H2) → r [v] H1 Q) (hg : Gl X nm := by rfl) (hn : nm ≠ "__name__" := by decide) (hdb : (nm == ("__debug__" : Str)) = false := by decide)
    (hs : starEach (e :: []) X.env = (false, eval e X.env) :: starEach [] X.env := by rfl) (hpl : (backTo pos (starEach [] X.env)).any (·.1) = false := by rfl) : Dx X W (.Call (.Name nm p) [e] [] pos) σ H S := by
  obtain ⟨te, pe, ev⟩ := h
  exact ⟨_, pe_callTy hc hg hm hv (pa_cons pe pa_nil hs) hn hdb hs hpl, fun H1 u hI Q q => ev H1 u hI _ fun v H2 x u2 i2 hx px => hr v H2 x Q (u.trans u2) i2 hx px fun w H3 y u3 i3 hy sy => q w H3 y (u2.trans u3) i3 hy sy⟩
theorem dx_intP {P : Int → Prop} (h : Dx X W e σ H P) (hm : X.mg "int" = none) (hg : Gl X "int" := by rfl) (hs : starEach (e :: []) X.env = (false, eval e X.env) :: starEach [] X.env := by rfl) (hpl : (backTo pos (starEach [] X.env)).any (·.1) = false := by rfl) :
    Dx X W (.Call (.Name "int" p) [e] [] pos) σ H P := dx_ty1 call_int1 h hm (by decide +kernel) (fun v H1 x Q _ hI hx px q => .inl ⟨x, by rw [show v = V.int x from hx], q _ H1 x (Up.refl _) hI rfl px⟩) hg (hs := hs) (hpl := hpl)
theorem dx_intB {k : Bool} (h : Dx X W e σ H (· = k)) (hm : X.mg "int" = none) (hg : Gl X "int" := by rfl) (hs : starEach (e :: []) X.env = (false, eval e X.env) :: starEach [] X.env := by rfl) (hpl : (backTo pos (starEach [] X.env)).any (·.1) = false := by rfl) :
    Dx X W (.Call (.Name "int" p) [e] [] pos) σ H (fun x : Int => x = if k = true then 1 else 0) := dx_ty1 call_int1 h hm (by decide +kernel) (fun v H1 x Q _ hI hx px q => by
  subst px
  exact .inr ⟨x, by rw [show v = V.bl x from hx], q _ H1 _ (Up.refl _) hI rfl rfl⟩) hg (hs := hs) (hpl := hpl)
theorem dx_strI {i : Int} (h : Dx X W e σ H (· = i)) (hz : i.natAbs.log2 < 1920) (hm : X.mg "str" = none) (hg : Gl X "str" := by rfl) (hs : starEach (e :: []) X.env = (false, eval e X.env) :: starEach [] X.env := by rfl) (hpl : (backTo pos (starEach [] X.env)).any (·.1) = false := by rfl) :
    Dx X W (.Call (.Name "str" p) [e] [] pos) σ H (fun x : Str => x = (Str.ofString (toString i))) := dx_ty1 call_str_int h hm (by decide +kernel) (fun v H1 x Q _ hI hx px q => by
  subst px
  exact ⟨x, by rw [show v = V.int x from hx], hz, q _ H1 _ (Up.refl _) hI rfl rfl⟩) hg (hs := hs) (hpl := hpl)
theorem dx_len {xs : List α} (h : Dx X W e σ H (· = xs)) (hm : X.mg "len" = none) (hg : Gl X "len" := by rfl) (hs : starEach (e :: []) X.env = (false, eval e X.env) :: starEach [] X.env := by rfl) (hpl : (backTo pos (starEach [] X.env)).any (·.1) = false := by rfl) :
    Dx X W (.Call (.Name "len" p) [e] [] pos) σ H (fun x : Int => x = xs.length) := dx_cb1 call_len_seq h hm PySem.boot_len (fun v H1 x Q _ hI hx px q => by
  subst px
  obtain ⟨p, us, rfl, n, e1, h1⟩ := hx
  refine ⟨p, us, rfl, .inl (SqL.of e1), ?_⟩
  rw [paired_len h1]
  exact q _ H1 _ (Up.refl _) hI rfl rfl) hg (hs := hs) (hpl := hpl)
theorem ints_of {H : Hp} : ∀ {us : List V} {ns : List Int}, Paired (fun u x => Is W H u x) us ns → us = ns.map V.int
  | _, _, .nil => rfl
  | _, _, .cons h t => by rw [List.map_cons, ints_of t, show _ = V.int _ from h]
theorem bls_of {H : Hp} : ∀ {us : List V} {ns : List Bool}, Paired (fun u x => Is W H u x) us ns → us = ns.map V.bl
  | _, _, .nil => rfl
  | _, _, .cons h t => by rw [List.map_cons, bls_of t, show _ = V.bl _ from h]
theorem dx_sum {xs : List Int} (hc : X.calm = true) (h : Dx X W e σ H (· = xs)) (hm : X.mg "sum" = none) (hg : Gl X "sum" := by rfl) (hs : starEach (e :: []) X.env = (false, eval e X.env) :: starEach [] X.env := by rfl) (hpl : (backTo pos (starEach [] X.env)).any (·.1) = false := by rfl) :
    Dx X W (.Call (.Name "sum" p) [e] [] pos) σ H (· = xs.sum) := dx_cb1 (cr_sum hc) h hm (by decide +kernel) (fun v H1 x Q _ hI hx px q => by
  subst px
  obtain ⟨p, us, rfl, n, e1, h1⟩ := hx
  rw [ints_of h1] at e1
  exact ⟨p, x, rfl, SqL.of e1, q _ H1 _ (Up.refl _) hI rfl rfl⟩) hg (hs := hs) (hpl := hpl)
theorem dx_all {xs : List Bool} (hc : X.calm = true) (h : Dx X W e σ H (· = xs)) (hm : X.mg "all" = none) (hg : Gl X "all" := by rfl) (hs : starEach (e :: []) X.env = (false, eval e X.env) :: starEach [] X.env := by rfl) (hpl : (backTo pos (starEach [] X.env)).any (·.1) = false := by rfl) :
    Dx X W (.Call (.Name "all" p) [e] [] pos) σ H (· = xs.all id) := dx_cb1 (cr_all hc) h hm (by decide +kernel) (fun v H1 x Q _ hI hx px q => by
  subst px
  obtain ⟨p, us, rfl, n, e1, h1⟩ := hx
  rw [bls_of h1] at e1
  exact ⟨p, x, rfl, SqL.of e1, q _ H1 _ (Up.refl _) hI rfl rfl⟩) hg (hs := hs) (hpl := hpl)
/-- divmod by a written positive number -/
theorem dx_divmodP {P : Int → Prop} {j : Int} (ha : Dx X W a σ H P) (hb : Dx X W b σ H (· = j)) (h0 : 0 < j) (h9 : j.natAbs.log2 < 9000) (hm : X.mg "divmod" = none) (hg : Gl X "divmod" := by rfl) (hs : starEach (a :: [b]) X.env = (false, eval a X.env) :: starEach [b] X.env := by rfl) (hs2 : starEach (b :: []) X.env = (false, eval b X.env) :: starEach [] X.env := by rfl) (hpl : (backTo pos (starEach [b] X.env)).any (·.1) = false := by rfl) :
    Dx X W (.Call (.Name "divmod" p) [a, b] [] pos) σ H (fun x : Int × Int => ∃ i, P i ∧ x = (i / j, i % j)) := dx_cb2 call_divmodW ha hb hm (by decide +kernel) (fun v w H1 x z Q _ hI hx hz px pz q => by
  subst pz
  refine ⟨x, z, by rw [show v = V.int x from hx, show w = V.int z from hz], ⟨h0, PyProof.noPylong_of_log2 h9⟩, fun p hp => ?_⟩
  exact q _ _ (x / z, x % z) (Up.new hp) (I_new hI hp) ⟨p, _, _, rfl, not_M hI hp, upd_same, rfl, rfl⟩ ⟨x, px, rfl⟩) hg (hs := hs) (hs2 := hs2) (hpl := hpl)
/-- gcd, lcm: a module's name for a built-in -/
theorem dx_gcd {i j : Int} (ha : Dx X W a σ H (· = i)) (hb : Dx X W b σ H (· = j)) (hm : X.mg "gcd" = some (.builtin "math.gcd")) (hg : Gl X "gcd" := by rfl) (hs : starEach (a :: [b]) X.env = (false, eval a X.env) :: starEach [b] X.env := by rfl) (hs2 : starEach (b :: []) X.env = (false, eval b X.env) :: starEach [] X.env := by rfl) (hpl : (backTo pos (starEach [b] X.env)).any (·.1) = false := by rfl) :
    Dx X W (.Call (.Name "gcd" p) [a, b] [] pos) σ H (fun x : Int => x = (Int.gcd i j : Int)) := by
  obtain ⟨te, pe, ev⟩ := ha
  obtain ⟨tb, pb, vb⟩ := hb
  refine ⟨_, pe_callBfun cr_gcd hg hm (pa_cons pe (pa_cons pb pa_nil hs2) hs) (by decide) hs hpl, fun H1 u hI Q q => ev H1 u hI _ fun v H2 x u2 i2 hx px => vb H2 (u.trans u2) i2 _ fun w H3 z u3 i3 hz pz => ?_⟩
  subst px; subst pz
  exact ⟨x, z, by rw [show v = V.int x from hx, show w = V.int z from hz], q _ H3 _ (u2.trans u3) i3 rfl rfl⟩
/-- bits for the built-in gcd and lcm -/
def Lc (i : Int) : Prop := i.natAbs < 2 ^ 6000
theorem lcm_bits {n : Nat} (h : n < 2 ^ 6000) : n.log2 < 6000 := by
  by_cases h0 : n = 0
  · subst h0; decide
  · exact (Nat.log2_lt h0).mpr h
theorem cr_lcm : CallR X (.builtin "math.lcm") (fun vs H Q => ∃ i j : Int, vs = [.int i, .int j] ∧ Lc i ∧ Lc j ∧ Q (.int (Nat.lcm i.natAbs j.natAbs : Nat)) H) := by
  intro pins s σ H vs us Q I r h
  obtain ⟨i, j, rfl, hi, hj, q⟩ := h
  obtain ⟨t, u, rfl⟩ := Vals.int2 r
  have e1 : Nat.lcm 1 i.natAbs = i.natAbs := by simp [Nat.lcm]
  have h1 := lcm_bits hi
  have h2 := lcm_bits hj
  have hl : Nat.lcm i.natAbs j.natAbs < 2 ^ 12000 := by
    refine Nat.lt_of_le_of_lt (Nat.div_le_self _ _) ?_
    rw [show (12000 : Nat) = 6000 + 6000 from rfl, Nat.pow_add]
    exact Nat.mul_lt_mul'' hi hj
  have g := PySem.W.mg_run_lcm i t j u (by
      have : (max 1 i.natAbs).log2 < 6000 := by
        rcases Nat.le_total 1 i.natAbs with h | h
        · rw [Nat.max_eq_right h]; exact h1
        · rw [Nat.max_eq_left h]; decide
      omega) (by
      have : (max i.natAbs j.natAbs).log2 < 6000 := by
        rcases Nat.le_total i.natAbs j.natAbs with h | h
        · rw [Nat.max_eq_right h]; exact h2
        · rw [Nat.max_eq_left h]; exact h1
      omega) (by
      rw [e1, Int.natAbs_natCast]
      have : (Nat.lcm i.natAbs j.natAbs).log2 < 12000 := by
        by_cases h0 : Nat.lcm i.natAbs j.natAbs = 0
        · rw [h0]; decide
        · exact (Nat.log2_lt h0).mpr hl
      have e : bitsLine = 134217728 := by decide
      omega)
  rw [e1] at g
  exact call_function_meets PySem.W.MGF.kind_lcm PySem.W.MGF.plain_lcm PySem.W.MGF.entry_lcm (PySem.W.MGF.args_lcm _ _) g.meets ⟨.int _, H, I.tok _, ⟨_, rfl⟩, q⟩
theorem dx_lcm {i j : Int} (ha : Dx X W a σ H (· = i)) (hb : Dx X W b σ H (· = j)) (li : Lc i) (lj : Lc j) (hm : X.mg "lcm" = some (.builtin "math.lcm")) (hg : Gl X "lcm" := by rfl) (hs : starEach (a :: [b]) X.env = (false, eval a X.env) :: starEach [b] X.env := by rfl) (hs2 : starEach (b :: []) X.env = (false, eval b X.env) :: starEach [] X.env := by rfl) (hpl : (backTo pos (starEach [b] X.env)).any (·.1) = false := by rfl) :
    Dx X W (.Call (.Name "lcm" p) [a, b] [] pos) σ H (fun x : Int => x = (Nat.lcm i.natAbs j.natAbs : Nat)) := by
  obtain ⟨te, pe, ev⟩ := ha
  obtain ⟨tb, pb, vb⟩ := hb
  refine ⟨_, pe_callBfun cr_lcm hg hm (pa_cons pe (pa_cons pb pa_nil hs2) hs) (by decide) hs hpl, fun H1 u hI Q q => ev H1 u hI _ fun v H2 x u2 i2 hx px => vb H2 (u.trans u2) i2 _ fun w H3 z u3 i3 hz pz => ?_⟩
  subst px; subst pz
  exact ⟨x, z, by rw [show v = V.int x from hx, show w = V.int z from hz], li, lj, q _ H3 _ (u2.trans u3) i3 rfl rfl⟩

/-! ### more operators -/
theorem op_fdivA : OpR X (binaryOp .FloorDiv) (rI (fun _ j => j ≠ 0 ∧ j.natAbs.log2 < 9000) fun i j => .int (i.fdiv j)) := opI fun i j _ _ _ _ _ hc q => floordiv_int hc.1 q (.inl (PyProof.noPylong_of_log2 hc.2))
theorem dx_fdiv {i j : Int} (ha : Dx X W a σ H (· = i)) (hb : Dx X W b σ H (· = j)) (h0 : j ≠ 0) (h9 : j.natAbs.log2 < 9000) : Dx X W (.BinOp a .FloorDiv b pos) σ H (· = i.fdiv j) := dx_opI (g := fun i j => i.fdiv j) op_fdivA ha hb ⟨h0, h9⟩
theorem dx_fdivP {P : Int → Prop} {j : Int} (ha : Dx X W a σ H P) (hb : Dx X W b σ H (· = j)) (h0 : j ≠ 0) (h9 : j.natAbs.log2 < 9000) : Dx X W (.BinOp a .FloorDiv b pos) σ H (fun z => ∃ i, P i ∧ z = i.fdiv j) := dx_op op_fdivA ha hb fun u v H1 x y Q _ hI hx hy px py q => by
  subst py
  exact ⟨_, _, hx, hy, ⟨h0, h9⟩, q _ H1 _ (Up.refl _) hI rfl ⟨x, px, rfl⟩⟩
theorem dx_modP {P : Int → Prop} {j : Int} (ha : Dx X W a σ H P) (hb : Dx X W b σ H (· = j)) (h0 : j ≠ 0) : Dx X W (.BinOp a .Mod b pos) σ H (fun z => ∃ i, P i ∧ z = i.fmod j) := dx_op op_modN ha hb fun u v H1 x y Q _ hI hx hy px py q => by
  subst py
  exact ⟨_, _, hx, hy, h0, q _ H1 _ (Up.refl _) hI rfl ⟨x, px, rfl⟩⟩
theorem dx_mulP {P R : Int → Prop} (ha : Dx X W a σ H P) (hb : Dx X W b σ H R) (hc : ∀ i j, P i → R j → CMulW i j) : Dx X W (.BinOp a .Mult b pos) σ H (fun z => ∃ i j, P i ∧ R j ∧ z = i * j) := dx_op op_mulW ha hb fun u v H1 x y Q _ hI hx hy px py q =>
  ⟨_, _, hx, hy, hc x y px py, q _ H1 _ (Up.refl _) hI rfl ⟨x, y, px, py, rfl⟩⟩
theorem dx_pow {i j : Int} (ha : Dx X W a σ H (· = i)) (hb : Dx X W b σ H (· = j)) (hc : 0 ≤ j ∧ j ≤ 1000000 ∧ i.natAbs < 2 ^ 64) : Dx X W (.BinOp a .Pow b pos) σ H (· = i ^ j.toNat) := dx_opI (g := fun i j => i ^ j.toNat) op_pow ha hb hc
theorem tx_gtP {P : Int → Prop} {j : Int} (ha : Dx X W a σ H P) (hb : Dx X W b σ H (· = j)) : Tx X W (.Compare a [.Gt] [b] pos) σ H (fun z => ∃ i, P i ∧ z = decide (j < i)) := by
  obtain ⟨ta, pa, va⟩ := ha
  obtain ⟨tb, pb, vb⟩ := hb
  refine ⟨_, pt_cmpR op_gt pa pb (nomark _), fun H1 u hI Q q => va H1 u hI _ fun v H2 x u2 i2 hx px => vb H2 (u.trans u2) i2 _ fun w H3 y u3 i3 hy py => ?_⟩
  subst py
  exact ⟨_, _, hx, hy, _, rfl, q _ H3 (u2.trans u3) i3 ⟨x, px, rfl⟩⟩
/-- texts -/
theorem dx_addS {x y : Str} (ha : Dx X W a σ H (· = x)) (hb : Dx X W b σ H (· = y)) (hl : x.length + y.length ≤ sizeLine) : Dx X W (.BinOp a .Add b pos) σ H (· = x ++ y) := dx_op op_add_str ha hb fun u v H1 x' y' Q _ hI hx hy px py q => by
  subst px; subst py
  exact ⟨_, _, hx, hy, hl, q _ H1 _ (Up.refl _) hI rfl rfl⟩
/-- lists -/
theorem paired_app {F : V → α → Prop} : ∀ {us vs : List V} {xs ys : List α}, Paired F us xs → Paired F vs ys → Paired F (us ++ vs) (xs ++ ys)
  | _, _, _, _, .nil, s => s
  | _, _, _, _, .cons r t, s => .cons r (paired_app t s)
theorem dx_cat {xs ys : List α} (ha : Dx X W a σ H (· = xs)) (hb : Dx X W b σ H (· = ys)) (hl : xs.length + ys.length ≤ 100000) : Dx X W (.BinOp a .Add b pos) σ H (· = xs ++ ys) := dx_op op_cat ha hb fun u v H1 x' y' Q _ hI hx hy px py q => by
  subst px; subst py
  obtain ⟨p1, us, rfl, n1, e1, h1⟩ := hx
  obtain ⟨p2, vs, rfl, n2, e2, h2⟩ := hy
  refine ⟨p1, p2, us, vs, rfl, rfl, e1, e2, Nat.le_trans (by rw [paired_len h1, paired_len h2]; exact hl) (by decide), fun p hp => ?_⟩
  exact q _ _ _ (Up.new hp) (I_new hI hp) ⟨p, _, rfl, not_M hI hp, upd_same, paired_up (Up.new hp) (paired_app h1 h2)⟩ rfl
theorem paired_rep {F : V → α → Prop} {us : List V} {xs : List α} (h : Paired F us xs) : ∀ n : Nat, Paired F (List.replicate n us).flatten (List.replicate n xs).flatten
  | 0 => .nil
  | n + 1 => by
    rw [List.replicate_succ, List.replicate_succ, List.flatten_cons, List.flatten_cons]
    exact paired_app h (paired_rep h n)
theorem dx_rep {xs : List α} {k : Int} (ha : Dx X W a σ H (· = xs)) (hb : Dx X W b σ H (· = k)) (h0 : 0 ≤ k) (h1 : k ≤ 1000) (hl : xs.length ≤ 1000) : Dx X W (.BinOp a .Mult b pos) σ H (· = (List.replicate k.toNat xs).flatten) := dx_op op_rep ha hb fun u v H1 x' y' Q _ hI hx hy px py q => by
  subst px; subst py
  obtain ⟨p1, us, rfl, n1, e1, h1'⟩ := hx
  refine ⟨p1, _, us, rfl, hy, e1, by omega, by omega, Nat.le_trans (Nat.mul_le_mul (by rw [paired_len h1']; exact hl) (show y'.toNat ≤ 1000 by omega)) (by decide), fun p hp => ?_⟩
  exact q _ _ _ (Up.new hp) (I_new hI hp) ⟨p, _, rfl, not_M hI hp, upd_same, paired_up (Up.new hp) (paired_rep h1' _)⟩ rfl

/-! ### f"{a}..{b}" -/
def Jx (X : Cx) (W : Wld) (es : List Expr) (σ : L2.St) (H : Hp) (ys : List Str) : Prop := ∃ ts, PJ X es ts ∧ ∀ acc : Str, acc.length + (ys.map (·.length)).sum ≤ sizeLine → ∀ H1, Up W H H1 → W.I H1 → ∀ Q : Str → Hp → Prop, (∀ H2, Up W H1 H2 → W.I H2 → Q (ys.foldl (· ++ ·) acc) H2) → tJs ts acc σ H1 Q
theorem jx_nil : Jx X W [] σ H [] := ⟨[], .nil, fun acc _ H1 _ hI Q q => q H1 (Up.refl _) hI⟩
theorem jx_cons {e : Expr} {es : List Expr} {y : Str} {ys : List Str} (h : Dx X W e σ H (· = y)) (hr : Jx X W es σ H ys) : Jx X W (e :: es) σ H (y :: ys) := by
  obtain ⟨te, pe, ev⟩ := h
  obtain ⟨ts, pj, vj⟩ := hr
  refine ⟨te :: ts, .cons pe pj, fun acc hl H1 u hI Q q => ev H1 u hI _ fun v H2 x u2 i2 hx px => ?_⟩
  subst px
  rw [List.map_cons, List.sum_cons] at hl
  have hl2 : (acc ++ x).length = acc.length + x.length := by exact PySem.Str.length_append _ _
  exact ⟨x, hx, by omega, vj (acc ++ x) (by omega) H2 (u.trans u2) i2 Q fun H3 u3 i3 => q H3 (u2.trans u3) i3⟩
theorem dx_fmtS {e : Expr} {y : Str} (h : Dx X W e σ H (· = y)) (hl : y.length ≤ sizeLine) : Dx X W (.FormattedValue e (-1) none pos) σ H (· = y) := by
  obtain ⟨te, pe, ev⟩ := h
  exact ⟨_, pe_fmt pe, fun H1 u hI Q q => ev H1 u hI _ fun v H2 x u2 i2 hx px => by subst px; exact .inl ⟨x, hx, hl, q _ H2 x u2 i2 rfl rfl⟩⟩
theorem dx_fmtI {e : Expr} {i : Int} (h : Dx X W e σ H (· = i)) (hz : i.natAbs.log2 < 1920) : Dx X W (.FormattedValue e (-1) none pos) σ H (fun x : Str => x = Str.ofString (toString i)) := by
  obtain ⟨te, pe, ev⟩ := h
  exact ⟨_, pe_fmt pe, fun H1 u hI Q q => ev H1 u hI _ fun v H2 x u2 i2 hx px => by subst px; exact .inr ⟨x, hx, hz, q _ H2 _ u2 i2 rfl rfl⟩⟩
theorem dx_joined {v1 v2 : Expr} {rest : List Expr} {ys : List Str} (h : Jx X W (v1 :: v2 :: rest) σ H ys) (hl : (ys.map (·.length)).sum ≤ sizeLine) : Dx X W (.JoinedStr (v1 :: v2 :: rest) pos) σ H (· = ys.foldl (· ++ ·) Str.empty) := by
  obtain ⟨ts, pj, vj⟩ := h
  exact ⟨_, pe_joined pj, fun H1 u hI Q q => vj Str.empty (by show 0 + _ ≤ _; omega) H1 u hI _ fun H2 u2 i2 => q _ H2 _ u2 i2 rfl rfl⟩
end
end Inn

set_option Elab.async false
set_option linter.all false
set_option maxRecDepth 100000
set_option maxHeartbeats 4000000
namespace Inn
open PySem L2 PySem.Spec PyProof.Rows
open Dat (Is)
/-- plain data stand the same in a lesser world -/
class Wk (α : Type) [Dat α] where
  wk : ∀ {W W' : Wld} {H : Hp} {v : V} {x : α}, (∀ a, W.M a → W'.M a) → Is W' H v x → Is W H v x
instance : Wk Int := ⟨fun _ h => h⟩
instance : Wk Bool := ⟨fun _ h => h⟩
instance : Wk Str := ⟨fun _ h => h⟩
instance {α β : Type} [Dat α] [Dat β] [Wk α] [Wk β] : Wk (α × β) := ⟨fun m h => by
  obtain ⟨p, u, w, e1, n, e2, h1, h2⟩ := h
  exact ⟨p, u, w, e1, fun z => n (m _ z), e2, Wk.wk m h1, Wk.wk m h2⟩⟩
theorem paired_wk {α : Type} [Dat α] [Wk α] {W W' : Wld} {H : Hp} (m : ∀ a, W.M a → W'.M a) : ∀ {us : List V} {xs : List α}, Paired (fun u x => Is W' H u x) us xs → Paired (fun u x => Is W H u x) us xs
  | _, _, .nil => .nil
  | _, _, .cons h t => .cons (Wk.wk m h) (paired_wk m t)
instance {α : Type} [Dat α] [Wk α] : Wk (List α) := ⟨fun m h => by
  obtain ⟨p, us, e1, n, e2, h1⟩ := h
  exact ⟨p, us, e1, fun z => n (m _ z), e2, paired_wk m h1⟩⟩
instance {C : Addr} : Wk (Rt C) := ⟨fun m h => by
  obtain ⟨p, dx, e1, n, e2⟩ := h
  exact ⟨p, dx, e1, fun z => n (m _ z), e2⟩⟩

theorem paired_is {α : Type} [Dat α] {W : Wld} {H H' : Hp} {us : List V} {xs : List α} {i : Nat} {u : V} {x : α} (h : Paired (fun u x => Is W H u x) us xs) (hu : us[i]? = some u) (hx : xs[i]? = some x) (e : Up W H H') : Is W H' u x := by
  obtain ⟨x', h1, h2⟩ := paired_getL h hu
  rw [hx] at h1
  cases h1
  exact Dat.up e h2
/-! ### one list that grows -/
/-- the world in which the list at p, of no data, holds us -/
def Wg (W : Wld) (p : Addr) (us : List V) : Wld where
  M a := W.M a ∨ a = p
  I H := W.I H ∧ H p = some (.lst us)
  st h k := ⟨W.st h.1 fun a m => k a (.inl m), by rw [k p (.inr rfl)]; exact h.2⟩
  al h m := by
    rcases m with m | rfl
    · exact W.al h.1 m
    · exact ⟨_, h.2⟩
theorem wg_sub {W : Wld} {p : Addr} {us : List V} : ∀ a, W.M a → (Wg W p us).M a := fun _ m => .inl m
theorem wg_same {W : Wld} {p : Addr} {us vs : List V} : ∀ a, (Wg W p us).M a → (Wg W p vs).M a := fun _ m => m
/-- what stood ahead of the list's making stands -/
theorem up_wg {W : Wld} {H H' : Hp} {p : Addr} {us : List V} (u : Up (Wg W p us) H H') (hp : H p = none) : Up W H H' := fun a o n e => u a o (fun m => m.elim n fun z => ne_of_none e hp z) e
theorem up_at {W : Wld} {H : Hp} {D : Addr} {us : List V} {o : HO} : Up (Wg W D us) H (upd H D o) := fun a u n e => by
  rw [upd_ne fun z => n (.inr z)]
  exact e
theorem Up.gw {W : Wld} {H H' : Hp} {p : Addr} {us : List V} (u : Up W H H') : Up (Wg W p us) H H' := fun a o n e => u a o (fun m => n (.inl m)) e
/-- data that stood ahead of the list's making -/
class Gr (α : Type) [Dat α] where
  gr : ∀ {W : Wld} {H : Hp} {D : Addr} {us : List V} {v : V} {x : α}, H D = none → Is W H v x → Is (Wg W D us) H v x
instance : Gr Int := ⟨fun _ h => h⟩
instance : Gr Bool := ⟨fun _ h => h⟩
instance : Gr Str := ⟨fun _ h => h⟩
theorem gr_M {W : Wld} {H : Hp} {D p : Addr} {us : List V} {o : HO} (n : ¬ W.M p) (hD : H D = none) (e : H p = some o) : ¬ (Wg W D us).M p := fun m => m.elim n fun z => ne_of_none e hD z
instance {α β : Type} [Dat α] [Dat β] [Gr α] [Gr β] : Gr (α × β) := ⟨fun hD h => by
  obtain ⟨p, u, w, e1, n, e2, h1, h2⟩ := h
  exact ⟨p, u, w, e1, gr_M n hD e2, e2, Gr.gr hD h1, Gr.gr hD h2⟩⟩
theorem paired_gr {α : Type} [Dat α] [Gr α] {W : Wld} {H : Hp} {D : Addr} {vs : List V} (hD : H D = none) : ∀ {us : List V} {xs : List α}, Paired (fun u x => Is W H u x) us xs → Paired (fun u x => Is (Wg W D vs) H u x) us xs
  | _, _, .nil => .nil
  | _, _, .cons h t => .cons (Gr.gr hD h) (paired_gr hD t)
instance {α : Type} [Dat α] [Gr α] : Gr (List α) := ⟨fun hD h => by
  obtain ⟨p, us, e1, n, e2, h1⟩ := h
  exact ⟨p, us, e1, gr_M n hD e2, e2, paired_gr hD h1⟩⟩
instance {C : Addr} : Gr (Rt C) := ⟨fun hD h => by
  obtain ⟨p, dx, e1, n, e2⟩ := h
  exact ⟨p, dx, e1, gr_M n hD e2, e2⟩⟩
instance {C : Addr} : Gr (Vd C) := ⟨fun {W H D us v x} hD h => by
  cases x with
  | int i => exact h
  | bl i => exact h
  | non => exact h
  | str i => exact h
  | rat r => exact Gr.gr (α := Rt C) hD h
  | lst => obtain ⟨p, us, e1, n, e2⟩ := h; exact ⟨p, us, e1, gr_M n hD e2, e2⟩
  | tup => obtain ⟨p, us, e1, n, e2⟩ := h; exact ⟨p, us, e1, gr_M n hD e2, e2⟩
  | dct => obtain ⟨p, us, e1, n, e2⟩ := h; exact ⟨p, us, e1, gr_M n hD e2, e2⟩⟩
instance {C : Addr} : Gr (Nm C) := ⟨fun {W H D us v x} hD h => by
  cases x with
  | i n => exact h
  | r r => exact Gr.gr (α := Rt C) hD h⟩
instance {C : Addr} : Wk (Vd C) := ⟨fun {W W' H v x} m h => by
  cases x with
  | int i => exact h
  | bl i => exact h
  | non => exact h
  | str i => exact h
  | rat r => exact Wk.wk (α := Rt C) m h
  | lst => obtain ⟨p, us, e1, n, e2⟩ := h; exact ⟨p, us, e1, fun z => n (m _ z), e2⟩
  | tup => obtain ⟨p, us, e1, n, e2⟩ := h; exact ⟨p, us, e1, fun z => n (m _ z), e2⟩
  | dct => obtain ⟨p, us, e1, n, e2⟩ := h; exact ⟨p, us, e1, fun z => n (m _ z), e2⟩⟩
instance {C : Addr} : Wk (Nm C) := ⟨fun {W W' H v x} m h => by
  cases x with
  | i n => exact h
  | r r => exact Wk.wk (α := Rt C) m h⟩

section
variable {X : Cx} {W : Wld} {σ : L2.St} {H : Hp} {pos p apos : Pos} {a b c e o : Expr} {es : List Expr} {nm : Str} {k : Nat} {α β A : Type} [Dat α] [Dat β] [DArgs A] {D : Ends} {sts bd be : List Stmt}
/-- a value is dropped -/
theorem wss_expr {P : α → Prop} (he : Dx X W e σ H P) (hI : W.I H) (q : ∀ v H1 x, Up W H H1 → W.I H1 → Is W H1 v x → P x → Wss X sts D σ H1) (hs : swapsWith e none pos.line X.env = pure false := by rfl) : Wss X (.Expr e pos :: sts) D σ H := by
  obtain ⟨te, pe, ev⟩ := he
  exact ⟨_, pss_cons (ps_expr pe hs) wss_all, ev H (Up.refl _) hI _ fun v H1 x u i1 hx hp => q v H1 x u i1 hx hp⟩
/-- xs.append(e), the list at l -/
theorem wss_append {l : Addr} (i : Nat) {nl : Str} {us : List V} {P : α → Prop} {p1 pa1 : Pos} (hσ : σ[i]? = some (some (.ref l))) (he : Dx X W e σ H P) (hI : W.I H) (hl : ∀ H1, Up W H H1 → W.I H1 → H1 l = some (.lst us)) (hz : us.length < 100000)
    (q : ∀ v H1 x, Up W H H1 → W.I H1 → Is W H1 v x → P x → Wss X sts D σ (upd H1 l (.lst (us ++ [v]))))
    (hN : X.N[i]? = some nl := by rfl) (hvis : Vis X.env.scope nl := by first | exact Or.inl rfl | exact Or.inr (Or.inl rfl) | exact Or.inr (Or.inr rfl)) (hd : (nl == ("__debug__" : Str)) = false := by decide) (hcd : (nl == ("__classdict__" : Str)) = false := by decide)
    (hbase : attributeBase (.Name nl p1) "append" X.env (eval (.Name nl p1) X.env) = eval (.Name nl p1) X.env := by rfl)
    (hfew : ((backTo p (starEach (e :: []) X.env)).all (fun x => !x.1) && (backToKw p (keywordEach [] X.env)).all (fun x => x.1.isSome)
      && decide ((e :: ([] : List Expr)).length + ([] : List Keyword).length + (if ([] : List Keyword).isEmpty then 0 else 1) < 30)) = true := by rfl)
    (hline : (pa1.endLine == p.line) = true := by rfl)
    (hs : starEach (e :: []) X.env = (false, eval e X.env) :: starEach [] X.env := by rfl) (hpl : (backTo p (starEach [] X.env)).any (·.1) = false := by rfl) (hsw : swapsWith (.Call (.Attribute (.Name nl p1) "append" pa1) [e] [] p) none pos.line X.env = pure false := by rfl) :
    Wss X (.Expr (.Call (.Attribute (.Name nl p1) "append" pa1) [e] [] p) pos :: sts) D σ H := by
  obtain ⟨te, pe, ev⟩ := he
  refine ⟨_, pss_cons (ps_expr (pe_bm PySem.F.plainAttrs_list PySem.F.slot_list_append PySem.F.type_list_append mt_append (pe_var hN hvis hd hcd) (pa_cons pe pa_nil hs) hbase hfew hline hs hpl) hsw) wss_all, ?_⟩
  refine ⟨.ref l, hσ, ?_⟩
  have hl0 := hl H (Up.refl _) hI
  refine ⟨.inl ⟨rfl, _, SqL.of hl0⟩, ev H (Up.refl _) hI _ fun v H1 x u i1 hx hp => ?_⟩
  exact ⟨l, us, v, rfl, rfl, hl H1 u i1, Nat.lt_of_lt_of_le hz (by decide), q v H1 x u i1 hx hp⟩

/-! ### loops -/
/-- for x in xs -/
theorem wss_forL (j : Nat) {xs : List α} {nm : Str} {p1 : Pos} {iter : Expr} (hi : Dx X W iter σ H (· = xs)) (hI : W.I H) (Pv : Nat → L2.St → Hp → Prop) (nd : X.N.Nodup) (hp : PassesOwn (model X.prog X.w) X.A X.env X.xe) (hc : X.calm = true)
    (h0 : ∀ H1, Up W H H1 → W.I H1 → Pv 0 σ H1)
    (hs : ∀ H1, Up W H H1 → W.I H1 → ∀ (i : Nat) x v σ' H', xs[i]? = some x → Up W H1 H' → W.I H' → Is W H' v x → Pv i σ' H' → Wss X bd { D with nx := fun σ2 H2 => Up W H1 H2 ∧ W.I H2 ∧ Pv (i + 1) σ2 H2, ct := fun σ2 H2 => Up W H1 H2 ∧ W.I H2 ∧ Pv (i + 1) σ2 H2, bk := fun σ2 H2 => Wss X sts D σ2 H2 } (σ'.set j (some v)) H')
    (hd : ∀ σ' H', Up W H H' → W.I H' → Pv xs.length σ' H' → Wss X sts D σ' H') (hN : X.N[j]? = some nm := by rfl) (hx : L2.Loc X.env.scope nm := by first | exact Or.inl rfl | exact Or.inr rfl) (hf : X.fn nm = true ∨ X.env.scope.names.lookup nm = some .local := by first | exact .inl rfl | exact .inr rfl)
    (hfs : ∀ x, foldedSetIterable iter X.env x = pure x := by intro _; rfl) :
    Wss X (.For (.Name nm p1) iter bd [] pos :: sts) D σ H := by
  obtain ⟨te, pe, ev⟩ := hi
  refine ⟨_, pss_cons (ps_for hp hc (pi_list pe) (pg_name (i := j) nd hN hx hf) wss_all hfs) wss_all, ev H (Up.refl _) hI _ fun v H1 ys u1 i1 hv ey => ?_⟩
  subst ey
  obtain ⟨a, us, rfl, n, e1, h1⟩ := id hv
  refine ⟨a, rfl, ⟨_, SqL.of e1⟩, for_list (K := X.K) (a := a) (xs := us) (fun i σ' H' => Up W H1 H' ∧ W.I H' ∧ Pv i σ' H') ⟨Up.refl _, i1, h0 H1 u1 i1⟩ (fun i σ' H' _ q => SqL.of (q.1 a _ n e1)) (fun i w σ' H' hw q => ?_) (fun σ' H' q => ?_)⟩
  · obtain ⟨q1, q2, q3⟩ := q
    obtain ⟨x, hx', hwx⟩ := paired_getL h1 hw
    exact hs H1 u1 i1 i x w σ' H' hx' q1 q2 (paired_is h1 hw hx' q1) q3
  · obtain ⟨q1, q2, q3⟩ := q
    rw [paired_len h1] at q3
    exact hd σ' H' (u1.trans q1) q2 q3
/-- for a, b in xs, xs pairs -/
theorem wss_forL2 (j1 j2 : Nat) {xs : List (α × β)} {n1 n2 : Str} {p1 p2 pt : Pos} {kt : Nat} {iter : Expr} (hi : Dx X W iter σ H (· = xs)) (hI : W.I H) (Pv : Nat → L2.St → Hp → Prop) (nd : X.N.Nodup) (hp : PassesOwn (model X.prog X.w) X.A X.env X.xe) (hc : X.calm = true)
    (h0 : ∀ H1, Up W H H1 → W.I H1 → Pv 0 σ H1)
    (hs : ∀ H1, Up W H H1 → W.I H1 → ∀ (i : Nat) x y v w σ' H', xs[i]? = some (x, y) → Up W H1 H' → W.I H' → Is W H' v x → Is W H' w y → Pv i σ' H' → Wss X bd { D with nx := fun σ2 H2 => Up W H1 H2 ∧ W.I H2 ∧ Pv (i + 1) σ2 H2, ct := fun σ2 H2 => Up W H1 H2 ∧ W.I H2 ∧ Pv (i + 1) σ2 H2, bk := fun σ2 H2 => Wss X sts D σ2 H2 } ((σ'.set j1 (some v)).set j2 (some w)) H')
    (hd : ∀ σ' H', Up W H H' → W.I H' → Pv xs.length σ' H' → Wss X sts D σ' H') (hN1 : X.N[j1]? = some n1 := by rfl) (hN2 : X.N[j2]? = some n2 := by rfl) (hx1 : L2.Loc X.env.scope n1 := by first | exact Or.inl rfl | exact Or.inr rfl) (hx2 : L2.Loc X.env.scope n2 := by first | exact Or.inl rfl | exact Or.inr rfl)
    (hf1 : X.fn n1 = true ∨ X.env.scope.names.lookup n1 = some .local := by first | exact .inl rfl | exact .inr rfl) (hf2 : X.fn n2 = true ∨ X.env.scope.names.lookup n2 = some .local := by first | exact .inl rfl | exact .inr rfl)
    (ha1 : (assignEach (.Name n1 p1 :: [.Name n2 p2]) X.env).map (·.2) = assign (.Name n1 p1) X.env :: (assignEach [.Name n2 p2] X.env).map (·.2) := by rfl) (ha2 : (assignEach (.Name n2 p2 :: []) X.env).map (·.2) = assign (.Name n2 p2) X.env :: (assignEach [] X.env).map (·.2) := by rfl)
    (hn : (assignEach [.Name n1 p1, .Name n2 p2] X.env).length = 2 := by rfl) (hst : (assignEach [.Name n1 p1, .Name n2 p2] X.env).findIdx? (·.1) = none := by rfl)
    (hfs : ∀ x, foldedSetIterable iter X.env x = pure x := by intro _; rfl) :
    Wss X (.For (.Tuple [.Name n1 p1, .Name n2 p2] kt pt) iter bd [] pos :: sts) D σ H := by
  obtain ⟨te, pe, ev⟩ := hi
  refine ⟨_, pss_cons (ps_for hp hc (pi_list pe) (pg_tup hc (pgs_cons (pg_name (i := j1) nd hN1 hx1 hf1) (pgs_cons (pg_name (i := j2) nd hN2 hx2 hf2) pgs_nil ha2) ha1) hn hst) wss_all hfs) wss_all, ev H (Up.refl _) hI _ fun v H1 ys u1 i1 hv ey => ?_⟩
  subst ey
  obtain ⟨a, us, rfl, n, e1, h1⟩ := id hv
  refine ⟨a, rfl, ⟨_, SqL.of e1⟩, for_list (K := X.K) (a := a) (xs := us) (fun i σ' H' => Up W H1 H' ∧ W.I H' ∧ Pv i σ' H') ⟨Up.refl _, i1, h0 H1 u1 i1⟩ (fun i σ' H' _ q => SqL.of (q.1 a _ n e1)) (fun i w σ' H' hw q => ?_) (fun σ' H' q => ?_)⟩
  · obtain ⟨q1, q2, q3⟩ := q
    obtain ⟨x, hx', hwx⟩ := paired_getL h1 hw
    have hz := paired_is h1 hw hx' q1
    obtain ⟨pp, v1, v2, rfl, nn, e2, z1, z2⟩ := id hz
    exact ⟨pp, [v1, v2], rfl, SqT.of e2, rfl, v1, [v2], rfl, v2, [], rfl, rfl, hs H1 u1 i1 i x.1 x.2 v1 v2 σ' H' hx' q1 q2 z1 z2 q3⟩
  · obtain ⟨q1, q2, q3⟩ := q
    rw [paired_len h1] at q3
    exact hd σ' H' (u1.trans q1) q2 q3
/-- for k in range(n) -/
theorem wss_forR (j : Nat) {n : Int} {nm : Str} {p1 p2 pr : Pos} {ea : Expr} (hi : Dx X W ea σ H (· = n)) (hI : W.I H) (hn0 : 0 ≤ n) (hn1 : n ≤ 100000) (Pv : Nat → L2.St → Hp → Prop) (nd : X.N.Nodup) (hp : PassesOwn (model X.prog X.w) X.A X.env X.xe) (hc : X.calm = true) (hm : X.mg "range" = none)
    (h0 : ∀ H1, Up W H H1 → W.I H1 → Pv 0 σ H1)
    (hs : ∀ (i : Nat) σ' H', (i : Int) < n → Up W H H' → W.I H' → Pv i σ' H' → Wss X bd { D with nx := fun σ2 H2 => Up W H H2 ∧ W.I H2 ∧ Pv (i + 1) σ2 H2, ct := fun σ2 H2 => Up W H H2 ∧ W.I H2 ∧ Pv (i + 1) σ2 H2, bk := fun σ2 H2 => Wss X sts D σ2 H2 } (σ'.set j (some (.int (i : Int)))) H')
    (hd : ∀ σ' H', Up W H H' → W.I H' → Pv n.toNat σ' H' → Wss X sts D σ' H') (hg : Gl X "range" := by rfl) (hN : X.N[j]? = some nm := by rfl) (hx : L2.Loc X.env.scope nm := by first | exact Or.inl rfl | exact Or.inr rfl) (hf : X.fn nm = true ∨ X.env.scope.names.lookup nm = some .local := by first | exact .inl rfl | exact .inr rfl)
    (hst : starEach (ea :: []) X.env = (false, eval ea X.env) :: starEach [] X.env := by rfl) (hst2 : starEach [ea] X.env = [(false, eval ea X.env)] := by rfl) (hfs : ∀ x, foldedSetIterable (.Call (.Name "range" p2) [ea] [] pr) X.env x = pure x := by intro _; rfl) :
    Wss X (.For (.Name nm p1) (.Call (.Name "range" p2) [ea] [] pr) bd [] pos :: sts) D σ H := by
  obtain ⟨te, pe, ev⟩ := hi
  refine ⟨_, pss_cons (ps_for hp hc (pi_range1 hg hm (pa_cons pe pa_nil hst) hst2) (pg_name (i := j) nd hN hx hf) wss_all hfs) wss_all, ev H (Up.refl _) hI _ fun v H1 m u1 i1 hv em => ?_⟩
  subst em
  cases hv
  refine ⟨m, rfl, by omega, by omega, for_range (lo := 0) (n := m.toNat) (fun i σ' H' => Up W H H' ∧ W.I H' ∧ Pv i σ' H') ⟨u1, i1, h0 H1 u1 i1⟩ (fun i σ' H' hi q => ?_) (fun σ' H' q => hd σ' H' q.1 q.2.1 q.2.2)⟩
  have e0 : (0 : Int) + (i : Int) = (i : Int) := Int.zero_add _
  show Wss X bd { D with nx := fun σ' H' => Up W H H' ∧ W.I H' ∧ Pv (i + 1) σ' H', ct := fun σ' H' => Up W H H' ∧ W.I H' ∧ Pv (i + 1) σ' H', bk := _ } (σ'.set j (some (.int ((0 : Int) + (i : Int))))) H'
  rw [e0]
  exact hs i σ' H' (by omega) q.1 q.2.1 q.2.2
/-- while t, by a word that falls -/
theorem wss_while (Wd : Nat → L2.St → Hp → Prop) (hp : PassesOwn (model X.prog X.w) X.A X.env X.xe) (m0 : Nat) (h0 : Wd m0 σ H)
    (hs : ∀ m σ' H', Wd m σ' H' → ∃ (W' : Wld) (b : Bool), W'.I H' ∧ Tx X W' c σ' H' (· = b) ∧ ∀ H1, Up W' H' H1 → W'.I H1 → (b = true → Wss X bd { D with nx := fun σ2 H2 => ∃ m', m' < m ∧ Wd m' σ2 H2, ct := fun σ2 H2 => ∃ m', m' < m ∧ Wd m' σ2 H2, bk := fun σ2 H2 => Wss X sts D σ2 H2 } σ' H1) ∧ (b = false → Wss X sts D σ' H1)) :
    Wss X (.While c bd [] pos :: sts) D σ H := by
  have hc : PT X c (fun σ H Q => ∃ t, PT X c t ∧ t σ H Q) := ⟨fun pins s σ H Q I ⟨t, pt, q⟩ => pt.run pins s σ H Q I q⟩
  refine ⟨_, pss_cons (ps_while hp hc wss_all) wss_all, Wd, ⟨m0, h0⟩, fun m σ' H' hw => ?_⟩
  obtain ⟨W', b, hI, ⟨t, pt, ev⟩, q⟩ := hs m σ' H' hw
  refine ⟨t, pt, ev H' (Up.refl _) hI _ fun b' H1 u1 i1 eb => ?_⟩
  subst eb
  obtain ⟨q1, q2⟩ := q H1 u1 i1
  cases b' with
  | true => exact ⟨_, fun σ2 H2 z => z, q1 rfl⟩
  | false => exact q2 rfl
end
end Inn

set_option Elab.async false
set_option linter.all false
set_option maxRecDepth 100000
set_option maxHeartbeats 4000000
namespace Inn
open PySem L2 PySem.Spec PyProof.Rows
open Dat (Is)
section
variable {X : Cx} {W : Wld} {σ : L2.St} {H : Hp} {pos p apos : Pos} {a b c e o : Expr} {es : List Expr} {nm : Str} {k : Nat} {α β γ A : Type} [Dat α] [Dat β] [Dat γ] [DArgs A]
/-- a block's element, whatever the block -/
def Bx (X : Cx) (W : Wld) (scope : Scope) (e : Expr) (σ : L2.St) (H : Hp) (P : α → Prop) : Prop :=
  ∀ (s : Shared) (H' : Hp) (C : Addr) (cl : List (Str × Addr)) (fp : List Addr), Dx (X.blk s H' scope (compEnvC scope cl C X.env) fp) W e σ H P
def tBx (X : Cx) (scope : Scope) (e : Expr) : TE := fun σ H Q => ∀ (s : Shared) (H' : Hp) (C : Addr) (cl : List (Str × Addr)) (fp : List Addr), ∃ t, PE (X.blk s H' scope (compEnvC scope cl C X.env) fp) e t ∧ t σ H Q
theorem pe_tBx {scope : Scope} {s : Shared} {H' : Hp} {C : Addr} {cl : List (Str × Addr)} {fp : List Addr} : PE (X.blk s H' scope (compEnvC scope cl C X.env) fp) e (tBx X scope e) :=
  ⟨fun pins s1 σ H Q I h => let ⟨t, pt, q⟩ := h s H' C cl fp; pt.run pins s1 σ H Q I q⟩
theorem Bx.ev {scope : Scope} {P : α → Prop} (h : Bx X W scope e σ H P) : Ev W (tBx X scope e) σ H P := fun H1 u hI Q q s H' C cl fp =>
  let ⟨t, pt, ev⟩ := h s H' C cl fp
  ⟨t, pt, ev H1 u hI Q q⟩
/-- what a comprehension has made of the first items: each as R says -/
inductive Mapd (R : α → β → Prop) : List α → List β → Prop
  | nil : Mapd R [] []
  | snoc {xs : List α} {ys : List β} {x : α} {y : β} : Mapd R xs ys → R x y → Mapd R (xs ++ [x]) (ys ++ [y])
theorem Mapd.eq {f : α → β} {xs : List α} {ys : List β} (h : Mapd (fun x y => y = f x) xs ys) : ys = xs.map f := by
  induction h with
  | nil => rfl
  | snoc h r ih => rw [List.map_append, ih, r] <;> rfl
theorem Mapd.len {R : α → β → Prop} {xs : List α} {ys : List β} (h : Mapd R xs ys) : ys.length = xs.length := by
  induction h with
  | nil => rfl
  | snoc h r ih => simp [ih]
theorem take_more {α : Type} : ∀ {l : List α} {i : Nat} {x : α}, l[i]? = some x → l.take (i + 1) = l.take i ++ [x]
  | [], i, x, h => by simp at h
  | a :: l, 0, x, h => by
    have e : a = x := Option.some.inj h
    subst e
    rfl
  | a :: l, i + 1, x, h => by
    have ih := take_more (l := l) (i := i) (x := x) h
    show a :: l.take (i + 1) = a :: l.take i ++ [x]
    rw [ih]
    rfl
/-- the list at D so far -/
def LcW (W : Wld) (R : α → β → Prop) (xs : List α) (H1 : Hp) (D : Addr) (i : Nat) (H' : Hp) : Prop :=
  Up (Wg W D []) H1 H' ∧ ∃ us ys, (Wg W D us).I H' ∧ Paired (fun u x => Is (Wg W D us) H' u x) us ys ∧ Mapd R (xs.take i) ys
theorem lcw_turn [Wk β] {R : α → β → Prop} {xs : List α} {H1 H' : Hp} {D : Addr} {i : Nat} {x : α} {te : TE} {σ2 : L2.St} (hD : ¬ W.M D) (hx : xs[i]? = some x) (hi : xs.length ≤ 100000) (p : LcW W R xs H1 D i H') (ev : ∀ us, (Wg W D us).I H' → Ev (Wg W D us) te σ2 H' (R x)) :
    te σ2 H' fun y H4 => ∃ acc, H4 D = some (.lst acc) ∧ acc.length < sizeLine ∧ LcW W R xs H1 D (i + 1) (upd H4 D (.lst (acc ++ [y]))) := by
  obtain ⟨p1, us, ys, p2, h2, h3⟩ := p
  have hlt := (List.getElem?_eq_some_iff.mp hx).1
  refine ev us p2 H' (Up.refl _) p2 _ fun v H4 y u4 i4 hy ry => ⟨us, i4.2, ?_, (p1.trans u4).trans up_at, us ++ [v], ys ++ [y], ⟨I_mut i4.1 hD, upd_same⟩, ?_, ?_⟩
  · have e1 := paired_len h2
    have e2 := h3.len
    rw [List.length_take] at e2
    exact Nat.lt_of_lt_of_le (show us.length < 100001 by omega) (by decide)
  · exact paired_wk (W' := Wg W D us) wg_same (paired_up (u4.trans up_at) h2 |> fun q => paired_app q (.cons (Dat.up (W := Wg W D us) up_at hy) .nil))
  · rw [take_more hx]
    exact .snoc h3 ry
/-- a comprehension: as a value, or set to a name -/
def Dc (X : Cx) (W : Wld) (e : Expr) (σ : L2.St) (H : Hp) (P : α → Prop) : Prop := ∃ te, PE X e te ∧ (∀ {i : Nat} {y : Str} {py spos : Pos}, X.N[i]? = some y → X.env.scope.names.lookup y = some .local → swapsWith e (some (.Name y py)) spos.line X.env = pure true → PS X (.Assign [.Name y py] e spos) (tAsg te (gName i))) ∧ Ev W te σ H P
theorem Dc.dx {P : α → Prop} (h : Dc X W e σ H P) : Dx X W e σ H P := let ⟨te, pe, _, ev⟩ := h; ⟨te, pe, ev⟩
theorem Dc.imp {P R : α → Prop} (h : Dc X W e σ H P) (f : ∀ x, P x → R x) : Dc X W e σ H R := let ⟨te, pe, ps, ev⟩ := h; ⟨te, pe, ps, fun H1 u hI Q q => ev H1 u hI Q fun v H2 x u2 i2 hx px => q v H2 x u2 i2 hx (f x px)⟩
/-- name = [..] -/
theorem wss_setC (i : Nat) {nm : Str} {P : α → Prop} {pos' : Pos} {D : Ends} {sts : List Stmt} (he : Dc X W e σ H P) (hI : W.I H) (k : ∀ v H1 x, Up W H H1 → W.I H1 → Is W H1 v x → P x → Wss X sts D (σ.set i (some v)) H1)
    (hi : X.N[i]? = some nm := by rfl) (hx : X.env.scope.names.lookup nm = some .local := by rfl) (hs : swapsWith e (some (.Name nm pos')) pos.line X.env = pure true := by rfl) :
    Wss X (.Assign [.Name nm pos'] e pos :: sts) D σ H := by
  obtain ⟨te, pe, ps, ev⟩ := he
  exact ⟨_, pss_cons (ps hi hx hs) wss_all, ev H (Up.refl _) hI _ fun v H1 x u i1 hx hp => k v H1 x u i1 hx hp⟩
/-- [elt for x in xs] -/
theorem dc_lc (i : Nat) {x : Str} {px pc : Pos} {elt iter : Expr} {scope : Scope} {xs : List α} {R : α → β → Prop} [Gr α] [Wk β] (hit : Dx X W iter σ H (· = xs)) (hl : xs.length ≤ 40000)
    (he : ∀ (D : Addr) (H1 : Hp) (us : List V), Up W H H1 → W.I H1 → H1 D = none → ∀ (j : Nat) (y : α) (v : V) H2, xs[j]? = some y → Up (Wg W D us) H1 H2 → (Wg W D us).I H2 → Is (Wg W D us) H2 v y → Bx X (Wg W D us) scope elt ((σ.set i none).set i (some v)) H2 (R y))
    (hc : X.calm = true) (hN : X.N.Nodup) (ok : BlkOk X.N X.env.scope scope [(x, i)])
    (hg : ∀ (s : Shared) (H : Hp) (C : Addr) (cl : List (Str × Addr)) (fp : List Addr), PG (X.blk s H scope (compEnvC scope cl C X.env) fp) (.Name x px) (gName i)) (hs : ∀ x, foldedSetIterable iter X.env x = pure x := by intro _; rfl) :
    Dc X W (.ListComp elt [⟨.Name x px, iter, [], 0⟩] scope pc) σ H (fun ys => Mapd R xs ys) := by
  obtain ⟨ti, pi, vi⟩ := hit
  refine ⟨_, pe_lc (own := [(x, i)]) hc hN (pi_list pi) ok hg (fun _ _ _ _ _ => pts_nil) (fun _ _ _ _ _ => pe_tBx) hs, fun h1 h2 h3 => ps_setLc (own := [(x, i)]) hc hN h1 h2 h3 (pi_list pi) ok hg (fun _ _ _ _ _ => pts_nil) (fun _ _ _ _ _ => pe_tBx) hs, fun H1 u1 i1 Q q => vi H1 u1 i1 _ fun v H2 zs u2 i2 hv ez => ?_⟩
  subst ez
  obtain ⟨a, us, rfl, n, e1, h1⟩ := id hv
  refine ⟨a, rfl, ⟨_, SqL.of e1⟩, fun D hD => lc_list (xs := us) (fun j H' => LcW W R zs H2 D j H') ⟨up_at, [], [], ⟨I_new i2 hD, upd_same⟩, .nil, .nil⟩ (fun j H' _ p => SqL.of (p.1 a _ (gr_M n hD e1) e1)) (fun j w H' hw p => ?_) (fun H' p => ?_)⟩
  · obtain ⟨y, hy, hwy⟩ := paired_getL h1 hw
    have hset : ((σ.set i none).set i (some w)).set i none = σ.set i none := by rw [List.set_set, List.set_set]
    refine ⟨hset, ?_⟩
    exact lcw_turn (not_M i2 hD) hy (by omega) p fun us' pI => (he D H2 us' (u1.trans u2) i2 hD j y w H' hy p.1 pI (Dat.up (W := Wg W D us') p.1 (Gr.gr hD hwy))).ev
  · obtain ⟨p1, us', ys, p2, h2, h3⟩ := p
    rw [paired_len h1, List.take_length] at h3
    have uu := up_wg p1 hD
    exact q (.ref D) H' ys (u2.trans uu) p2.1 ⟨D, us', rfl, not_M i2 hD, p2.2, paired_wk wg_sub h2⟩ h3
/-- [elt for x, y in xs], xs pairs -/
theorem dc_lc2 (i1 i2 : Nat) {n1 n2 : Str} {p1 p2 pt pc : Pos} {kt : Nat} {elt iter : Expr} {scope : Scope} {xs : List (α × γ)} {R : α × γ → β → Prop} [Gr α] [Gr γ] [Wk β] (hit : Dx X W iter σ H (· = xs)) (hl : xs.length ≤ 40000) (hi12 : i1 ≠ i2)
    (he : ∀ (D : Addr) (H1 : Hp) (us : List V), Up W H H1 → W.I H1 → H1 D = none → ∀ (j : Nat) (y : α) (z : γ) (v w : V) H2, xs[j]? = some (y, z) → Up (Wg W D us) H1 H2 → (Wg W D us).I H2 → Is (Wg W D us) H2 v y → Is (Wg W D us) H2 w z → Bx X (Wg W D us) scope elt ((((σ.set i2 none).set i1 none).set i1 (some v)).set i2 (some w)) H2 (R (y, z)))
    (hc : X.calm = true) (hN : X.N.Nodup) (ok : BlkOk X.N X.env.scope scope [(n1, i1), (n2, i2)])
    (hg : ∀ (s : Shared) (H : Hp) (C : Addr) (cl : List (Str × Addr)) (fp : List Addr), PG (X.blk s H scope (compEnvC scope cl C X.env) fp) (.Tuple [.Name n1 p1, .Name n2 p2] kt pt) (gTup X.K 2 (gCons (gName i1) (gCons (gName i2) gNil)))) (hs : ∀ x, foldedSetIterable iter X.env x = pure x := by intro _; rfl) :
    Dc X W (.ListComp elt [⟨.Tuple [.Name n1 p1, .Name n2 p2] kt pt, iter, [], 0⟩] scope pc) σ H (fun ys => Mapd R xs ys) := by
  obtain ⟨ti, pi, vi⟩ := hit
  refine ⟨_, pe_lc (own := [(n1, i1), (n2, i2)]) hc hN (pi_list pi) ok hg (fun _ _ _ _ _ => pts_nil) (fun _ _ _ _ _ => pe_tBx) hs, fun h1 h2 h3 => ps_setLc (own := [(n1, i1), (n2, i2)]) hc hN h1 h2 h3 (pi_list pi) ok hg (fun _ _ _ _ _ => pts_nil) (fun _ _ _ _ _ => pe_tBx) hs, fun H1 u1 i1' Q q => vi H1 u1 i1' _ fun v H2 zs u2 i2' hv ez => ?_⟩
  subst ez
  obtain ⟨a, us, rfl, n, e1, h1⟩ := id hv
  refine ⟨a, rfl, ⟨_, SqL.of e1⟩, fun D hD => lc_list (xs := us) (fun j H' => LcW W R zs H2 D j H') ⟨up_at, [], [], ⟨I_new i2' hD, upd_same⟩, .nil, .nil⟩ (fun j H' _ p => SqL.of (p.1 a _ (gr_M n hD e1) e1)) (fun j w H' hw p => ?_) (fun H' p => ?_)⟩
  · obtain ⟨y, hy, hwy⟩ := paired_getL h1 hw
    have hy2 : Is (Wg W D []) H' w y := Dat.up p.1 (Gr.gr hD hwy)
    obtain ⟨pp, v1, v2, rfl, nn, e2, z1, z2⟩ := id hy2
    refine ⟨pp, [v1, v2], rfl, SqT.of e2, rfl, v1, [v2], rfl, v2, [], rfl, rfl, ?_, ?_⟩
    · show ((((((σ.set i2 none).set i1 none).set i1 (some v1)).set i2 (some v2)).set i2 none).set i1 none) = ((σ.set i2 none).set i1 none)
      have e : ∀ B : L2.St, ((((B.set i1 none).set i1 (some v1)).set i2 (some v2)).set i2 none).set i1 none = (B.set i2 none).set i1 none := fun B => by
        rw [List.set_set, List.set_set, List.set_comm (l := B.set i1 (some v1)) none none hi12.symm, List.set_set, List.set_comm none none hi12]
      rw [e, List.set_set]
    · refine lcw_turn (not_M i2' hD) hy (by omega) p fun us' pI => (he D H2 us' (u1.trans u2) i2' hD j y.1 y.2 v1 v2 H' hy p.1 pI ?_ ?_).ev
      · have hy3 : Is (Wg W D us') H' (.ref pp) y := Dat.up (W := Wg W D us') p.1 (Gr.gr hD hwy)
        obtain ⟨pp', w1, w2, ep, _, e3, z1', z2'⟩ := hy3
        cases ep
        rw [e2] at e3
        cases e3
        exact z1'
      · have hy3 : Is (Wg W D us') H' (.ref pp) y := Dat.up (W := Wg W D us') p.1 (Gr.gr hD hwy)
        obtain ⟨pp', w1, w2, ep, _, e3, z1', z2'⟩ := hy3
        cases ep
        rw [e2] at e3
        cases e3
        exact z2'
  · obtain ⟨p1, us', ys, p2, h2, h3⟩ := p
    rw [paired_len h1, List.take_length] at h3
    have uu := up_wg p1 hD
    exact q (.ref D) H' ys (u2.trans uu) p2.1 ⟨D, us', rfl, not_M i2' hD, p2.2, paired_wk wg_sub h2⟩ h3
end
end Inn

set_option Elab.async false
set_option linter.all false
set_option maxRecDepth 100000
set_option maxHeartbeats 4000000
namespace Inn
open PySem L2 PySem.Spec PyProof.Rows
open Dat (Is)

/-! ### defs that show texts of lists: no text is being made around them -/
/-- a def's promise where no repr runs -/
structure FnG (P : Program) (w : World) (K : PySem.W.Frag) (mg : Str → Option Value) (base : Heap) (k : Nat) (f : Addr) (fd : FuncData) (ps : List Str) (sp : Sp) : Prop where
  ln : ∀ vs H Q E, sp vs H Q E → vs.length = ps.length
  go : ∀ (A : Around) (fr : List Env) (s : Shared) (H : Hp) (args : Args) (us : List Value) (vs : List V) (Q : VK), A.guards = some [] → Room k A → Env0 P w K mg base A fr s H → BindsTo s fd args (ps.zip us) → Vals vs us → sp vs H Q E0 →
    codeAny (model P w) A (.call (.ref f) args) (fun r s' => ∃ u, r = .ok (.ret u) ∧ CE fr P w H s Q u s') s
theorem guards_deeper (A : Around) (env : Env) : (A.deeper env).guards = A.guards := rfl
section
variable {P : Program} {w : World} {K : PySem.W.Frag} {mg : Str → Option Value} {base : Heap} {k : Nat} {f : Addr} {fd : FuncData} {N ps : List Str} {sp : Sp}
theorem FnG.of (F : FnOk P w K mg base CX0 k f fd ps sp) : FnG P w K mg base k f fd ps sp :=
  ⟨F.len, fun A fr s H args us vs Q _ hr he hb hv hs => codeAny_mono (F.run A fr s H args us vs Q E0 hr he hb hv hs) fun r s' h => by
    cases r with
    | error e => exact False.elim h
    | ok fl => cases fl with
      | ret u => exact ⟨u, rfl, h⟩
      | next => exact False.elim h
      | brk => exact False.elim h
      | cont => exact False.elim h⟩
theorem fnG_of {x qual : Str} {st : Stmt} (F : Fun K x qual st f fd) (S : FnScope N ps (defScope st)) (ln : ∀ vs H Q E, sp vs H Q E → vs.length = ps.length)
    (body : ∀ (cdv : Value) (A : Around) (fr : List Env) (s : Shared) (H : Hp) (vs : List V) (Q : VK), A.guards = some [] → Room k (A.deeper (envOfC qual (defScope st) s.heap.objs.size f cdv)) → sp vs H Q E0 →
      Wss (cxOf CX0 P w K mg base N qual (defScope st) f cdv A fr s H E0).nox (defBody st) { nx := fun _ H' => Q .non H', rt := Q } (start N vs) H) : FnG P w K mg base (k + 1) f fd ps sp := by
  obtain ⟨oc, od, kV, doc, pm, an, cdv, ct, osl, rfl, lk, hcd⟩ := F.ex
  refine ⟨ln, fun A fr s H args us vs Q hG hr e0 hb rv hsp => ?_⟩
  have there : K.In s.heap := e0.mod.kin.keeps fun b o z => (e0.bs b o z).1
  have open_ : s.heap.NoLimit := e0.mod.nolimit.keeps fun b o z => (e0.bs b o z).1
  have kinds : ∀ y ∈ ps.zip us, (defScope st).names.lookup y.1 = some .local ∨ ((defScope st).names.lookup y.1 = some .cell ∧ ((cellsFrom (s.heap.objs.size + 1) (defScope st).names []).lookup y.1).isSome = true) := by
    rintro ⟨n, v⟩ hy
    exact (S.par n (List.of_mem_zip hy).1).imp id fun q => ⟨q, PySem.W.cellsFrom_some _ _ _ (.inl q)⟩
  have code := PySem.W.codeRec_of there hcd
  apply codeAny_call_function hr.depth (there _ _ lk) rfl S.co S.gen rfl code
  apply hb
  apply wpAny_newFunctionEnv_cells S.kind kinds
  intro env he s1 ic
  subst he
  refine ⟨open_.keeps ic.toInCall.keep, codeAny_func ?_⟩
  obtain ⟨t, pt, q⟩ := body cdv A fr s H vs Q hG (hr.deeper _) hsp
  have inv := inv_start (CX := CX0) (E := E0) S hr.hd e0 (ln _ _ _ _ hsp) rv ic
  have done := pt.run [] s1 _ H _ (inv.wish _) q
  refine wpAny_mono done (fun fl s' hs => ?_) fun _ _ z => z.elim
  cases fl with
  | ret u =>
    obtain ⟨v, σ', H', J, rv', q'⟩ := hs
    exact ⟨u, rfl, v, H', J.os, J.bare, J.base, J.hok, rv', q'⟩
  | next =>
    obtain ⟨σ', H', J, q'⟩ := hs
    exact ⟨Value.none, rfl, V.non, H', J.os, J.bare, J.base, J.hok, rfl, q'⟩
  | brk => exact hs.elim fun _ z => z.elim fun _ z => z.2.elim
  | cont => exact hs.elim fun _ z => z.elim fun _ z => z.2.elim
end
/-- .. of the module -/
structure DefG (P : Program) (w : World) (K : PySem.W.Frag) (mg : Str → Option Value) (base : Heap) (k : Nat) (nm : Str) (ps : List Str) (sp : Sp) : Prop where
  ex : ∃ f fd, FnG P w K mg base k f fd ps sp ∧ mg nm = some (.ref f) ∧ PySem.W.keepIn K (.ref f) = true ∧ Binds K fd ps []
theorem run_G {X : Cx} {k : Nat} {f : Addr} {fd : FuncData} {ps : List Str} {sp : Sp} {pins : List (Addr × Obj)} {σ : L2.St} {H : Hp} {s : Shared} {Q : VK} {us : List Value} {vs : List V} (F : FnG X.prog X.w X.K X.mg X.base k f fd ps sp) (hG : X.A.guards = some []) (hr : Room k X.A) (hb : Binds X.K fd ps [])
    (I : Inv X pins σ H s) (rv : Vals vs us) (h : sp vs H Q E0) : wpAny (model X.prog X.w) X.A (call (.ref f) us) (EP X pins σ Q) X.xe s := by
  have hl : us.length = ps.length := by rw [← rv.length]; exact F.ln _ _ _ _ h
  have b := hb s us I.kIn (by rw [List.append_nil]; exact hl)
  rw [List.append_nil] at b
  refine wpAny_call (codeAny_mono (F.go X.A X.stack s H ⟨us, []⟩ us vs Q hG hr I.env0 b rv h) fun r s' ⟨u, er, ce⟩ => ?_)
  subst er
  exact I.after ce
section
variable {α β A : Type} [Dat α] [Dat β] [DArgs A] {X : Cx} {W : Wld} {σ : L2.St} {H : Hp} {pos p : Pos} {e : Expr} {es : List Expr} {k : Nat} {nm : Str} {ps : List Str} {pre : A → Prop} {R : A → β → Prop}
theorem dx_callGP {P : A → Prop} (B : DefG X.prog X.w X.K X.mg X.base k nm ps (SpF pre R)) (hG : X.A.guards = some []) (hr : Room k X.A) (ha : Ax X W (e :: es) σ H P) (hp : ∀ a, P a → pre a) (hg : Gl X nm := by rfl) (hdb : (nm == ("__debug__" : Str)) = false := by decide)
    (he : starEach (e :: es) X.env = (false, eval e X.env) :: starEach es X.env := by rfl) (hpl : (backTo pos (starEach es X.env)).any (·.1) = false := by rfl) : Dx X W (.Call (.Name nm p) (e :: es) [] pos) σ H (fun y => ∃ a, P a ∧ R a y) := by
  obtain ⟨f, fd, F, hm, hk, hb⟩ := B.ex
  obtain ⟨ta, pa, va⟩ := ha
  have pe : PE X (.Call (.Name nm p) (e :: es) [] pos) (fun σ H Q => ta σ H fun vs H1 => SpF pre R vs H1 Q E0) := by
    refine ⟨fun pins s σ H Q I h => wpAny_Call_Name_kw (ld_glob I hg hm ?_ hdb)⟩
    exact PySem.W.callWith_K (h₀ := X.base) I.ok.mod.kin hk (thn (pa.run pos pins s σ H _ I h) fun us s1 ⟨vs, H1, I1, rv, q⟩ => ⟨I1.kIn, run_G F hG hr hb I1 rv q⟩) he hpl
  exact ⟨_, pe, fun H1 u hI Q q => va H1 u hI _ fun vs H2 a u2 i2 ha pa => ⟨W, a, ha, i2, hp a pa, fun w H3 y u3 i3 hy ry => q w H3 y (u2.trans u3) i3 hy ⟨a, pa, ry⟩⟩⟩
theorem dx_callG {x : A} (B : DefG X.prog X.w X.K X.mg X.base k nm ps (SpF pre R)) (hG : X.A.guards = some []) (hr : Room k X.A) (ha : Ax X W (e :: es) σ H (· = x)) (hp : pre x) (hg : Gl X nm := by rfl) (hdb : (nm == ("__debug__" : Str)) = false := by decide)
    (he : starEach (e :: es) X.env = (false, eval e X.env) :: starEach es X.env := by rfl) (hpl : (backTo pos (starEach es X.env)).any (·.1) = false := by rfl) : Dx X W (.Call (.Name nm p) (e :: es) [] pos) σ H (R x) :=
  (dx_callGP B hG hr ha (fun a pa => pa ▸ hp) hg hdb he hpl).imp fun y hy => by
    obtain ⟨a, pa, ry⟩ := hy
    exact pa ▸ ry
theorem fnG_body {P : Program} {w : World} {K : PySem.W.Frag} {mg : Str → Option Value} {base : Heap} {x qual : Str} {st : Stmt} {f : Addr} {fd : FuncData} {N : List Str}
    (F : Fun K x qual st f fd) (S : FnScope N ps (defScope st)) (hn : DArgs.n A = ps.length)
    (body : ∀ (cdv : Value) (A' : Around) (outer : List Env) (s : Shared) (H : Hp) (W : Wld) (vs : List V) (a : A) (Q : VK), A'.guards = some [] → Room k (A'.deeper (envOfC qual (defScope st) s.heap.objs.size f cdv)) → DArgs.Is W H vs a → W.I H → pre a →
      (∀ u H' y, Up W H H' → W.I H' → Is W H' u y → R a y → Q u H') → Wss (cxOf CX0 P w K mg base N qual (defScope st) f cdv A' outer s H E0).nox (defBody st) { nx := fun _ H' => Q .non H', rt := Q } (start N vs) H) :
    FnG P w K mg base (k + 1) f fd ps (SpF pre R) :=
  fnG_of F S (fun vs H Q E h => (spF_len h).trans hn) fun cdv A' outer s H vs Q hG hr ⟨W, a, h1, hI, hp, q⟩ => body cdv A' outer s H W vs a Q hG hr h1 hI hp q
end

/-! ### repr of data -/
class PyR (α : Type) [Dat α] where
  py : α → PyData
  dp : ∀ {K : PySem.W.Frag} {W : Wld} {H : Hp} {u : V} {x : α}, Is W H u x → Dp K H u (py x)
  nd : ∀ x : α, (py x).hasDict = false
  dep : Nat
  le : ∀ x : α, (py x).depth ≤ dep
instance : PyR Int := ⟨.int, fun h => by cases h; exact .int _, fun _ => rfl, 0, fun _ => Nat.le_refl _⟩
instance : PyR Bool := ⟨.bool, fun h => by cases h; exact .bl _, fun _ => rfl, 0, fun _ => Nat.le_refl _⟩
theorem dpAllR {α : Type} [Dat α] [PyR α] {K : PySem.W.Frag} {W : Wld} {H : Hp} : ∀ {us : List V} {xs : List α}, Paired (fun u x => Is W H u x) us xs → DpAll K H us (xs.map PyR.py)
  | _, _, .nil => .nil
  | _, _, .cons h t => .cons (PyR.dp h) (dpAllR t)
theorem ndAllR {α : Type} [Dat α] [PyR α] : ∀ (xs : List α), PyData.hasDictAll (xs.map PyR.py) = false
  | [] => rfl
  | x :: xs => by
    show (PyData.hasDict _ || PyData.hasDictAll _) = false
    rw [PyR.nd, ndAllR xs]
    rfl
theorem depAllR {α : Type} [Dat α] [PyR α] : ∀ (xs : List α), PyData.depthAll (xs.map PyR.py) ≤ PyR.dep α
  | [] => Nat.zero_le _
  | x :: xs => by
    have h1 := PyR.le x
    have h2 := depAllR xs
    show max (PyData.depth _) (PyData.depthAll _) ≤ _
    omega
instance {α : Type} [Dat α] [PyR α] : PyR (List α) where
  py xs := .list (xs.map PyR.py)
  dp h := by
    obtain ⟨p, us, rfl, n, e, h1⟩ := h
    exact .lst (SqL.of e) (dpAllR h1)
  nd xs := ndAllR xs
  dep := PyR.dep α + 1
  le xs := Nat.succ_le_succ (depAllR xs)
/-- an int or a bool -/
inductive Ib where
  | i (n : Int) | b (k : Bool)
instance : Dat Ib := ⟨fun _ _ v x => match x with | .i n => v = .int n | .b k => v = .bl k, fun {_ _ _ _ x} _ h => by cases x <;> exact h⟩
instance : PyR Ib := ⟨fun x => match x with | .i n => .int n | .b k => .bool k, fun {K W H u x} h => by
  cases x with
  | i n => cases h; exact .int _
  | b k => cases h; exact .bl _, fun x => by cases x <;> rfl, 0, fun x => by cases x <;> exact Nat.le_refl _⟩
section
variable {X : Cx} {W : Wld} {σ : L2.St} {H : Hp} {pos p : Pos} {e : Expr} {α : Type} [Dat α]
theorem dx_ibI {i : Int} (h : Dx X W e σ H (· = i)) : Dx X W e σ H (fun y : Ib => y = .i i) := h.as Ib.i fun hx px => by subst px; exact ⟨hx, rfl⟩
theorem dx_ibB {i : Bool} (h : Dx X W e σ H (· = i)) : Dx X W e σ H (fun y : Ib => y = .b i) := h.as Ib.b fun hx px => by subst px; exact ⟨hx, rfl⟩
theorem dx_reprL [PyR α] {xs : List α} (hG : X.A.guards = some []) (hu : X.A.units + 64 < cLine) (hdep : PyR.dep α ≤ 8) (h : Dx X W e σ H (· = xs)) (hsh : PyData.showableAll (xs.map PyR.py) = true) (hsz : (PyData.list (xs.map PyR.py)).shown.length ≤ sizeLine) (hm : X.mg "repr" = none) (hg : Gl X "repr" := by rfl)
    (hs : starEach (e :: []) X.env = (false, eval e X.env) :: starEach [] X.env := by rfl) (hpl : (backTo pos (starEach [] X.env)).any (·.1) = false := by rfl) : Dx X W (.Call (.Name "repr" p) [e] [] pos) σ H (fun y : Str => y = (PyData.list (xs.map PyR.py)).shown) := by
  have hc : CallR X (.builtin "repr") (fun vs H Q => ∃ (d : List PyData) (v : V) (a : Addr), vs = [v] ∧ v = .ref a ∧ Dp X.K H v (.list d) ∧ (PyData.list d).hasDict = false ∧ PyData.showable (.list d) = true ∧ (PyData.list d).depth ≤ 10 ∧ (PyData.list d).shown.length ≤ sizeLine ∧ Q (.str (PyData.list d).shown) H) := by
    intro pins s σ H vs us Q I rv ⟨d, v, a, e1, e2, hd, nd, sh, dep, sz, q⟩
    subst e1; subst e2
    cases rv with
    | cons rv rn =>
      cases rn
      cases rv
      obtain ⟨as, rd⟩ := Dp.reads I (.list d) (.ref a) (.ref a) hd rfl
      obtain ⟨m, hF⟩ := I.fr
      refine repr_of_reads' rd sh (PyData.noDict_hsm nd) hG (by omega) (fun _ _ z => z) (fun h' u tk hk => ?_) sz
      exact ⟨.str _, H, I.kept hk, ⟨u, rfl⟩, q⟩
  refine dx_cb1 hc h hm (by decide +kernel) (fun v H1 x Q _ hI hx px q => ?_) hg (hs := hs) (hpl := hpl)
  subst px
  obtain ⟨p, us, e0, n, e1, h1⟩ := hx
  subst e0
  exact ⟨x.map PyR.py, .ref p, p, rfl, rfl, .lst (SqL.of e1) (dpAllR h1), ndAllR x, hsh, Nat.le_trans (Nat.succ_le_succ (depAllR x)) (by omega), hsz, q _ H1 _ (Up.refl _) hI rfl rfl⟩
end
end Inn

set_option Elab.async false
set_option linter.all false
set_option maxRecDepth 100000
set_option maxHeartbeats 4000000
namespace Inn
open PySem L2 PySem.Spec PyProof.Rows
open Dat (Is)

/-! ### the list that a law draws from -/
def PotL (a b : Int) : HO := .lst [.int a, .int b]
/-- the world lets the two numbers at l change -/
structure PotW (W : Wld) (l : Addr) : Prop where
  m : W.M l
  rd : ∀ {H}, W.I H → ∃ a b : Int, 0 ≤ a ∧ 0 ≤ b ∧ b < 2 ^ 40 ∧ H l = some (PotL a b)
  wr : ∀ {H} (a b : Int), W.I H → 0 ≤ a → 0 ≤ b → b < 2 ^ 40 → W.I (upd H l (PotL a b))
structure Pot where
  l : Addr
instance : Dat Pot := ⟨fun W _ v x => v = .ref x.l ∧ PotW W x.l, fun _ h => h⟩
theorem pot_gr {W : Wld} {H H' : Hp} {D : Addr} {us : List V} {v : V} {x : Pot} (hI : W.I H) (hD : H D = none) (h : Is W H v x) : Is (Wg W D us) H' v x := by
  obtain ⟨e, p⟩ := h
  have ne : x.l ≠ D := by
    obtain ⟨a, b, _, _, _, e1⟩ := p.rd hI
    exact ne_of_none e1 hD
  exact ⟨e, .inl p.m, fun h => p.rd h.1, fun a b h h1 h2 h3 => ⟨p.wr a b h.1 h1 h2 h3, by rw [upd_ne ne.symm]; exact h.2⟩⟩
/-- only the pot changes -/
def Wp (l : Addr) : Wld where
  M a := a = l
  I H := ∃ a b : Int, 0 ≤ a ∧ 0 ≤ b ∧ b < 2 ^ 40 ∧ H l = some (PotL a b)
  st h k := by
    obtain ⟨a, b, h1, h2, h3, h4⟩ := h
    exact ⟨a, b, h1, h2, h3, by rw [k _ rfl]; exact h4⟩
  al h m := by
    obtain ⟨a, b, h1, h2, h3, h4⟩ := h
    exact ⟨_, by rw [m]; exact h4⟩
theorem pot_wp (l : Addr) : PotW (Wp l) l := ⟨rfl, fun h => h, fun a b _ h1 h2 h3 => ⟨a, b, h1, h2, h3, upd_same⟩⟩
theorem up_pot {W : Wld} {H : Hp} {l : Addr} {o : HO} (m : W.M l) : Up W H (upd H l o) := fun a u n e => by
  rw [upd_ne (show a ≠ l from fun z => n (by rw [z]; exact m))]
  exact e
section
variable {X : Cx} {W : Wld} {σ : L2.St} {H : Hp} {pos p apos : Pos} {a b c e o : Expr} {es : List Expr} {nm : Str} {k : Nat} {α β γ A : Type} [Dat α] [Dat β] [Dat γ] [DArgs A] {D : Ends} {sts : List Stmt} {x : Pot}
theorem dx_pot0 {i : Expr} (h : Dx X W a σ H (· = x)) (hi : Dx X W i σ H (fun z : Int => z = 0)) (hs : PlainIx i := by exact fun _ _ => rfl) : Dx X W (.Subscript a i pos) σ H (fun y : Int => 0 ≤ y) := by
  obtain ⟨ta, pa, va⟩ := h
  obtain ⟨ti, pi, vi⟩ := hi
  refine ⟨_, pe_ix ix_list pa pi hs, fun H1 u hI Q q => va H1 u hI _ fun v H2 z u2 i2 hz pz => vi H2 (u.trans u2) i2 _ fun w H3 n u3 i3 hn pn => ?_⟩
  subst pz; subst pn
  obtain ⟨rfl, P⟩ := hz
  cases hn
  obtain ⟨c, d, h1, h2, h3, e⟩ := P.rd i3
  exact ⟨z.l, [.int c, .int d], 0, .int c, rfl, rfl, SqL.of e, rfl, q _ H3 c (u2.trans u3) i3 rfl h1⟩
theorem dx_pot1 {i : Expr} (h : Dx X W a σ H (· = x)) (hi : Dx X W i σ H (fun z : Int => z = 1)) (hs : PlainIx i := by exact fun _ _ => rfl) : Dx X W (.Subscript a i pos) σ H (fun y : Int => 0 ≤ y ∧ y < 2 ^ 40) := by
  obtain ⟨ta, pa, va⟩ := h
  obtain ⟨ti, pi, vi⟩ := hi
  refine ⟨_, pe_ix ix_list pa pi hs, fun H1 u hI Q q => va H1 u hI _ fun v H2 z u2 i2 hz pz => vi H2 (u.trans u2) i2 _ fun w H3 n u3 i3 hn pn => ?_⟩
  subst pz; subst pn
  obtain ⟨rfl, P⟩ := hz
  cases hn
  obtain ⟨c, d, h1, h2, h3, e⟩ := P.rd i3
  exact ⟨z.l, [.int c, .int d], 1, .int d, rfl, rfl, SqL.of e, rfl, q _ H3 d (u2.trans u3) i3 rfl ⟨h2, h3⟩⟩
/-- pot[1] = e -/
theorem wss_pot1 {P : Int → Prop} {i : Expr} {ps : Pos} (he : Dx X W e σ H P) (h : ∀ H', Dx X W a σ H' (· = x)) (hi : ∀ H', Dx X W i σ H' (fun z : Int => z = 1)) (hI : W.I H) (hP : ∀ n, P n → 0 ≤ n ∧ n < 2 ^ 40) (q : ∀ H1, Up W H H1 → W.I H1 → Wss X sts D σ H1)
    (ha : ∀ v, assign (.Subscript a i ps) X.env v = (do
      let ov ← holding [v] (eval a X.env)
      let iv ← holding [v, ov] (eval i X.env)
      standAt ps
      holding [v, ov, iv] (setItem ov iv v)
      release [v, ov, iv] []) := by intro _; rfl) (hs : swapsWithSole [.Subscript a i ps] e pos.line X.env = pure false := by rfl) (hw : swappedStores [.Subscript a i ps] e X.env = pure none := by rfl)
    (h1 : (assignEach [.Subscript a i ps] X.env).map (·.2) = [assign (.Subscript a i ps) X.env] := by rfl) : Wss X (.Assign [.Subscript a i ps] e pos :: sts) D σ H := by
  obtain ⟨te, pe, ev⟩ := he
  obtain ⟨ta, pa, va⟩ := h H
  obtain ⟨ti, pi, vi⟩ := hi H
  refine ⟨_, pss_cons (ps_asg pe (pg_sub pa pi set_list ha) hs hw h1) wss_all, ev H (Up.refl _) hI _ fun v H1 n u1 i1 hn pn => va H1 u1 i1 _ fun ov H2 z u2 i2 hz pz => vi H2 (u1.trans u2) i2 _ fun iv H3 m u3 i3 hm pm => ?_⟩
  subst pz; subst pm
  obtain ⟨rfl, PW⟩ := hz
  cases hn
  cases hm
  obtain ⟨c, d, h1, h2, h3, e⟩ := PW.rd i3
  obtain ⟨n0, n1⟩ := hP n pn
  exact ⟨z.l, [.int c, .int d], 1, 1, rfl, rfl, e, rfl, q _ (((u1.trans u2).trans u3).trans (up_pot PW.m)) (PW.wr c n i3 h1 n0 n1)⟩
/-- pot[0], digit = divmod(..) -/
theorem wss_pot0 (j : Nat) {P : Int × Int → Prop} {i : Expr} {ps pn pt : Pos} {kt : Nat} (he : Dx X W e σ H P) (h : ∀ H', Dx X W a σ H' (· = x)) (hi : ∀ H', Dx X W i σ H' (fun z : Int => z = 0)) (hI : W.I H) (hP : ∀ n, P n → 0 ≤ n.1) (nd : X.N.Nodup) (hc : X.calm = true)
    (q : ∀ H1 (n : Int × Int), P n → Up W H H1 → W.I H1 → Wss X sts D (σ.set j (some (.int n.2))) H1) (hN : X.N[j]? = some nm := by rfl) (hx : L2.Loc X.env.scope nm := by first | exact Or.inl rfl | exact Or.inr rfl) (hf : X.fn nm = true ∨ X.env.scope.names.lookup nm = some .local := by first | exact .inl rfl | exact .inr rfl)
    (ha : ∀ v, assign (.Subscript a i ps) X.env v = (do
      let ov ← holding [v] (eval a X.env)
      let iv ← holding [v, ov] (eval i X.env)
      standAt ps
      holding [v, ov, iv] (setItem ov iv v)
      release [v, ov, iv] []) := by intro _; rfl)
    (ha1 : (assignEach (.Subscript a i ps :: [.Name nm pn]) X.env).map (·.2) = assign (.Subscript a i ps) X.env :: (assignEach [.Name nm pn] X.env).map (·.2) := by rfl) (ha2 : (assignEach (.Name nm pn :: []) X.env).map (·.2) = assign (.Name nm pn) X.env :: (assignEach [] X.env).map (·.2) := by rfl)
    (hn : (assignEach [.Subscript a i ps, .Name nm pn] X.env).length = 2 := by rfl) (hst : (assignEach [.Subscript a i ps, .Name nm pn] X.env).findIdx? (·.1) = none := by rfl)
    (hs : swapsWithSole [.Tuple [.Subscript a i ps, .Name nm pn] kt pt] e pos.line X.env = pure false := by rfl) (hw : swappedStores [.Tuple [.Subscript a i ps, .Name nm pn] kt pt] e X.env = pure none := by rfl)
    (h1 : (assignEach [.Tuple [.Subscript a i ps, .Name nm pn] kt pt] X.env).map (·.2) = [assign (.Tuple [.Subscript a i ps, .Name nm pn] kt pt) X.env] := by rfl) : Wss X (.Assign [.Tuple [.Subscript a i ps, .Name nm pn] kt pt] e pos :: sts) D σ H := by
  obtain ⟨te, pe, ev⟩ := he
  obtain ⟨ta, pa, va⟩ := h H
  obtain ⟨ti, pi, vi⟩ := hi H
  refine ⟨_, pss_cons (ps_asg pe (pg_tup hc (pgs_cons (pg_sub pa pi set_list ha) (pgs_cons (pg_name (i := j) nd hN hx hf) pgs_nil ha2) ha1) hn hst) hs hw h1) wss_all, ev H (Up.refl _) hI _ fun v H1 n u1 i1 hn pn => ?_⟩
  obtain ⟨pp, w1, w2, rfl, nM, e2, z1, z2⟩ := hn
  refine ⟨pp, _, rfl, SqT.of e2, rfl, w1, [w2], rfl, va H1 u1 i1 _ fun ov H2 z u2 i2 hz pz => vi H2 (u1.trans u2) i2 _ fun iv H3 m u3 i3 hm pm => ?_⟩
  subst pz; subst pm
  obtain ⟨rfl, PW⟩ := hz
  cases hm
  cases z1
  cases z2
  obtain ⟨c, d, h1, h2, h3, e⟩ := PW.rd i3
  exact ⟨z.l, [.int c, .int d], 0, 0, rfl, rfl, e, rfl, _, [], rfl, rfl, q _ n pn (((u1.trans u2).trans u3).trans (up_pot PW.m)) (PW.wr n.1 d i3 (hP n pn) h2 h3)⟩
/-- what a draw tells -/
def DrawPre : Cns Pot (Cns Int Nil) → Prop := fun a => 0 < a.t.h ∧ a.t.h < 2 ^ 30
def DrawR : Cns Pot (Cns Int Nil) → Int → Prop := fun a y => 0 ≤ y ∧ y < a.t.h
end

/-! ### a, b = a pair; self.f = an int -/
section
variable {X : Cx} {W : Wld} {σ : L2.St} {H : Hp} {pos : Pos} {e : Expr} {α β : Type} [Dat α] [Dat β] {D : Ends} {sts : List Stmt}
theorem wss_unp (j1 j2 : Nat) {P : α × β → Prop} {n1 n2 : Str} {p1 p2 pt : Pos} {kt : Nat} (he : Dx X W e σ H P) (hI : W.I H) (nd : X.N.Nodup) (hc : X.calm = true)
    (q : ∀ v w H1 (x : α) (y : β), P (x, y) → Up W H H1 → W.I H1 → Is W H1 v x → Is W H1 w y → Wss X sts D ((σ.set j1 (some v)).set j2 (some w)) H1)
    (hN1 : X.N[j1]? = some n1 := by rfl) (hN2 : X.N[j2]? = some n2 := by rfl) (hx1 : L2.Loc X.env.scope n1 := by first | exact Or.inl rfl | exact Or.inr rfl) (hx2 : L2.Loc X.env.scope n2 := by first | exact Or.inl rfl | exact Or.inr rfl)
    (hf1 : X.fn n1 = true ∨ X.env.scope.names.lookup n1 = some .local := by first | exact .inl rfl | exact .inr rfl) (hf2 : X.fn n2 = true ∨ X.env.scope.names.lookup n2 = some .local := by first | exact .inl rfl | exact .inr rfl)
    (ha1 : (assignEach (.Name n1 p1 :: [.Name n2 p2]) X.env).map (·.2) = assign (.Name n1 p1) X.env :: (assignEach [.Name n2 p2] X.env).map (·.2) := by rfl) (ha2 : (assignEach (.Name n2 p2 :: []) X.env).map (·.2) = assign (.Name n2 p2) X.env :: (assignEach [] X.env).map (·.2) := by rfl)
    (hn : (assignEach [.Name n1 p1, .Name n2 p2] X.env).length = 2 := by rfl) (hst : (assignEach [.Name n1 p1, .Name n2 p2] X.env).findIdx? (·.1) = none := by rfl)
    (hs : swapsWithSole [.Tuple [.Name n1 p1, .Name n2 p2] kt pt] e pos.line X.env = pure false := by rfl) (hw : swappedStores [.Tuple [.Name n1 p1, .Name n2 p2] kt pt] e X.env = pure none := by rfl)
    (h1 : (assignEach [.Tuple [.Name n1 p1, .Name n2 p2] kt pt] X.env).map (·.2) = [assign (.Tuple [.Name n1 p1, .Name n2 p2] kt pt) X.env] := by rfl) : Wss X (.Assign [.Tuple [.Name n1 p1, .Name n2 p2] kt pt] e pos :: sts) D σ H := by
  obtain ⟨te, pe, ev⟩ := he
  refine ⟨_, pss_cons (ps_asg pe (pg_tup hc (pgs_cons (pg_name (i := j1) nd hN1 hx1 hf1) (pgs_cons (pg_name (i := j2) nd hN2 hx2 hf2) pgs_nil ha2) ha1) hn hst) hs hw h1) wss_all, ev H (Up.refl _) hI _ fun v H1 n u1 i1 hn pn => ?_⟩
  obtain ⟨pp, w1, w2, rfl, nM, e2, z1, z2⟩ := hn
  exact ⟨pp, _, rfl, SqT.of e2, rfl, w1, [w2], rfl, w2, [], rfl, rfl, q w1 w2 H1 n.1 n.2 pn u1 i1 z1 z2⟩
/-- one object alone changes, and is o -/
def Wx (p : Addr) (o : HO) : Wld where
  M a := a = p
  I H := H p = some o
  st h k := by rw [k _ rfl]; exact h
  al h m := ⟨o, by rw [m]; exact h⟩
theorem wss_fld {p C dx : Addr} {fs : List (Str × V)} {i : Int} {f : Str} {n0 : Str} {ps pa : Pos} (c : Cls X.K C) (na : NoAttr X.K C f) (hl : fs.length < 1000) (he : Dx X (Wx p (.ins C dx fs)) e σ H (· = i)) (hI : (Wx p (.ins C dx fs)).I H) (hσ : σ[0]? = some (some (.ref p)))
    (q : ∀ H1, Up (Wx p (.ins C dx fs)) H H1 → Wss X sts D σ (upd H1 p (.ins C dx (putF f (.int i) fs)))) (hN : X.N[0]? = some n0 := by rfl) (hvis : Vis X.env.scope n0 := by first | exact Or.inl rfl | exact Or.inr (Or.inl rfl)) (hd : (n0 == ("__debug__" : Str)) = false := by decide) (hcd : (n0 == ("__classdict__" : Str)) = false := by decide)
    (hs : swapsWith e (some (.Attribute (.Name n0 ps) f pa)) pos.line X.env = pure false := by rfl) : Wss X (.Assign [.Attribute (.Name n0 ps) f pa] e pos :: sts) D σ H := by
  obtain ⟨te, pe, ev⟩ := he
  refine ⟨_, pss_cons (ps_fld (pe_var hN hvis hd hcd) pe hs) wss_all, ev H (Up.refl _) hI _ fun v H1 n u1 i1 hn pn => ?_⟩
  subst pn
  cases hn
  exact ⟨.ref p, hσ, p, C, dx, fs, rfl, i1, c, na, hl, q H1 u1⟩
end
end Inn

set_option Elab.async false
set_option linter.all false
set_option maxRecDepth 100000
set_option maxHeartbeats 4000000
namespace Inn
open PySem L2 PySem.Spec PyProof.Rows
open Dat (Is)
/-- the one value g -/
abbrev SpE {A β : Type} [DArgs A] [Dat β] (pre : A → Prop) (g : A → β) : Sp := SpF pre fun a y => y = g a
section
variable {α β A : Type} [Dat α] [Dat β] [DArgs A] {X : Cx} {W : Wld} {σ : L2.St} {H : Hp} {pos p apos : Pos} {a b c e o : Expr} {es rest : List Expr} {k : Nat} {nm : Str} {ps : List Str} {pre : A → Prop} {g : A → β} {C : Addr} {r : Rt C} {x : A}
theorem dx_callE (B : Def X.prog X.w X.K X.mg X.base k nm ps (SpE pre g)) (hr : Room k X.A) (ha : Ax X W (e :: es) σ H (· = x)) (hp : pre x) (hg : Gl X nm := by rfl) (hdb : (nm == ("__debug__" : Str)) = false := by decide)
    (he : starEach (e :: es) X.env = (false, eval e X.env) :: starEach es X.env := by rfl) (hpl : (backTo pos (starEach es X.env)).any (·.1) = false := by rfl) : Dx X W (.Call (.Name nm p) (e :: es) [] pos) σ H (· = g x) := dx_call B hr ha hp hg hdb he hpl
theorem dx_callGE (B : DefG X.prog X.w X.K X.mg X.base k nm ps (SpE pre g)) (hG : X.A.guards = some []) (hr : Room k X.A) (ha : Ax X W (e :: es) σ H (· = x)) (hp : pre x) (hg : Gl X nm := by rfl) (hdb : (nm == ("__debug__" : Str)) = false := by decide)
    (he : starEach (e :: es) X.env = (false, eval e X.env) :: starEach es X.env := by rfl) (hpl : (backTo pos (starEach es X.env)).any (·.1) = false := by rfl) : Dx X W (.Call (.Name nm p) (e :: es) [] pos) σ H (· = g x) := dx_callG B hG hr ha hp hg hdb he hpl
theorem dx_propE {pre : Cns (Rt C) Nil → Prop} {g : Cns (Rt C) Nil → β} (c : Cls X.K C) (B : PDef X.prog X.w X.K X.mg X.base k C nm (SpE pre g)) (hr : Room (k + 1) X.A) (h : Dx X W o σ H (· = r)) (hp : pre ⟨r, ⟨⟩⟩)
    (hb : attributeBase o nm X.env (eval o X.env) = eval o X.env := by rfl) : Dx X W (.Attribute o nm pos) σ H (· = g ⟨r, ⟨⟩⟩) := dx_prop c B hr h hp hb
theorem dx_methE {x : A} {pre : Cns (Rt C) A → Prop} {g : Cns (Rt C) A → β} {pl : Sem Bool} (c : Cls X.K C) (B : MDef X.prog X.w X.K X.mg X.base k C nm ps (SpE pre g)) (hr : Room k X.A) (h : Dx X W o σ H (· = r)) (ha : Ax X W (e :: es) σ H (· = x)) (hp : pre ⟨r, x⟩)
    (h1 : ¬ nm = "_bottom" := by decide +kernel) (h2 : ¬ nm = "_top" := by decide +kernel)
    (hst : starEach (e :: es) X.env = (false, eval e X.env) :: starEach es X.env := by rfl) (hpl : (backTo pos (starEach es X.env)).any (·.1) = false := by rfl)
    (ht : eval (.Call (.Attribute o nm apos) (e :: es) [] pos) X.env = (do
      let ov ← eval o X.env
      standAt apos.atName
      let (f, first) ← holding [ov] (getMethod ov nm pl)
      callWith pos f first (backTo pos (starEach (e :: es) X.env)) (backToKw pos (keywordEach [] X.env))) := by rfl) : Dx X W (.Call (.Attribute o nm apos) (e :: es) [] pos) σ H (· = g ⟨r, x⟩) := dx_meth c B hr h ha hp h1 h2 hst hpl ht
theorem dx_meth0E {pre : Cns (Rt C) Nil → Prop} {g : Cns (Rt C) Nil → β} {pl : Sem Bool} (c : Cls X.K C) (B : MDef X.prog X.w X.K X.mg X.base k C nm ps (SpE pre g)) (hr : Room k X.A) (h : Dx X W o σ H (· = r)) (hp : pre ⟨r, ⟨⟩⟩)
    (h1 : ¬ nm = "_bottom" := by decide +kernel) (h2 : ¬ nm = "_top" := by decide +kernel)
    (ht : eval (.Call (.Attribute o nm apos) [] [] pos) X.env = (do
      let ov ← eval o X.env
      standAt apos.atName
      let (f, first) ← holding [ov] (getMethod ov nm pl)
      callWith pos f first (backTo pos (starEach [] X.env)) (backToKw pos (keywordEach [] X.env))) := by rfl) : Dx X W (.Call (.Attribute o nm apos) [] [] pos) σ H (· = g ⟨r, ⟨⟩⟩) := dx_meth0 c B hr h hp h1 h2 ht
end
end Inn

set_option Elab.async false
set_option linter.all false
set_option maxRecDepth 100000
set_option maxHeartbeats 4000000
namespace Inn
open PySem L2 PySem.Spec PyProof.Rows
open Dat (Is)

/-! ### arguments by name -/
/-- how a def binds n values by place and the names ks -/
structure KwF (K : PySem.W.Frag) (fd : FuncData) (ps : List Str) (n : Nat) (ks : List Str) (gV : List V → List V → List V) : Prop where
  ex : ∃ g, KBn K fd ps n ks g gV
section
variable {X : Cx} {W : Wld} {σ : L2.St} {H : Hp} {pos p apos kpos : Pos} {a b c e o : Expr} {es : List Expr} {k : Nat} {nm m : Str} {α β γ A : Type} [Dat α] [Dat β] [Dat γ] [DArgs A] {ps ks : List Str} {f C : Addr} {fd : FuncData} {sp : Sp} {kws : List Keyword} {gV : List V → List V → List V}
def Kx (X : Cx) (W : Wld) (kws : List Keyword) (σ : L2.St) (H : Hp) (P : A → Prop) : Prop := ∃ ta, PK X kws ta ∧ EvA W ta σ H P
theorem kx_nil : Kx X W [] σ H (fun x : Nil => x = ⟨⟩) := ⟨_, pk_nil, fun H1 _ hI Q q => q [] H1 ⟨⟩ (Up.refl _) hI rfl rfl⟩
theorem kx_cons {x : α} {r : A} {kn : Option Str} (h : Dx X W e σ H (· = x)) (hr : Kx X W kws σ H (· = r)) : Kx X W (⟨kn, e, kpos⟩ :: kws) σ H (· = Cns.mk x r) := by
  obtain ⟨te, pe, ev⟩ := h
  obtain ⟨ta, pa, va⟩ := hr
  refine ⟨_, pk_cons pe pa, fun H1 u hI Q q => ev H1 u hI _ fun v H2 x' u2 i2 hx px => va H2 (u.trans u2) i2 _ fun vs H3 r' u3 i3 hr' pr => ?_⟩
  subst px; subst pr
  exact q (v :: vs) H3 ⟨x', r'⟩ (u2.trans u3) i3 ⟨v, vs, rfl, Dat.up u3 hx, hr'⟩ rfl
theorem run_kw {pins : List (Addr × Obj)} {s : Shared} {Q : VK} {us ws : List Value} {vs zs : List V} (F : FnOk X.prog X.w X.K X.mg X.base CX0 k f fd ps sp) (hr : Room k X.A) {n : Nat} (hb : KwF X.K fd ps n ks gV)
    (I : Inv X pins σ H s) (r : Vals vs us) (rz : Vals zs ws) (l1 : vs.length = n) (l2 : zs.length = ks.length) (h : sp (gV vs zs) H Q E0) :
    codeAny (model X.prog X.w) X.A (.call (.ref f) ⟨us, ks.zip ws⟩) (fun r s' => match r with | .ok (.ret v) => EP X pins σ Q v s' | .ok _ => False | .error e => X.xe e s') s := by
  obtain ⟨g, hb⟩ := hb.ex
  refine codeAny_mono (F.run X.A X.stack s H ⟨us, ks.zip ws⟩ (g us ws) (gV vs zs) Q E0 hr I.env0 (hb.to s us ws I.kIn (r.length.symm.trans l1) (rz.length.symm.trans l2)) (hb.rel r rz) h) fun r s' hq => ?_
  cases r with
  | error e => exact False.elim hq
  | ok fl =>
    cases fl with
    | ret u => exact I.after hq
    | next => exact False.elim hq
    | brk => exact False.elim hq
    | cont => exact False.elim hq
/-- a def, called by names alone -/
structure KDef (P : Program) (w : World) (K : PySem.W.Frag) (mg : Str → Option Value) (base : Heap) (k : Nat) (nm : Str) (ps ks : List Str) (gV : List V → List V → List V) (sp : Sp) : Prop where
  ex : ∃ f fd, FnOk P w K mg base CX0 k f fd ps sp ∧ mg nm = some (.ref f) ∧ PySem.W.keepIn K (.ref f) = true ∧ KwF K fd ps 0 ks gV
theorem dx_callKE {kw : Keyword} {pre : A → Prop} {g : A → β} {x : A} (B : KDef X.prog X.w X.K X.mg X.base k nm ps ks gV (SpE pre g)) (hr : Room k X.A) (hkw : Kx X W (kw :: kws) σ H (· = x)) (hp : pre x) (hgv : ∀ zs, gV [] zs = zs) (hln : DArgs.n A = ks.length)
    (hg : Gl X nm := by rfl) (hdb : (nm == ("__debug__" : Str)) = false := by decide) (hall : (backToKw pos (keywordEach (kw :: kws) X.env)).all (·.1.isSome) = true := by rfl) (hks : (backToKw pos (keywordEach (kw :: kws) X.env)).filterMap (·.1) = ks := by rfl)
    (hpl : ((backTo pos (starEach [] X.env)).any (·.1) || (backToKw pos (keywordEach (kw :: kws) X.env)).any (·.1.isNone)) = false := by rfl) : Dx X W (.Call (.Name nm p) [] (kw :: kws) pos) σ H (· = g x) := by
  obtain ⟨f, fd, F, hm, hk, hb⟩ := B.ex
  obtain ⟨tk, pk, vk⟩ := hkw
  have pe : PE X (.Call (.Name nm p) [] (kw :: kws) pos) (fun σ H Q => tk σ H fun zs H2 => zs.length = ks.length ∧ SpE pre g (gV [] zs) H2 Q E0) := by
    refine ⟨fun pins s σ H Q I h => ?_⟩
    refine wpAny_Call_Name_kw (ld_glob I hg hm ?_ hdb)
    refine PySem.W.callWith_KW0 (h₀ := X.base) I.ok.mod.kin hk hall (thn (pk.run pos pins s σ H _ I h) fun ws s2 ⟨zs, H2, I2, rz, l2, q2⟩ => ⟨I2.kIn, ?_⟩) hpl
    rw [hks]
    exact wpAny_call (run_kw F hr hb I2 .nil rz rfl l2 q2)
  refine ⟨_, pe, fun H1 u hI Q q => vk H1 u hI _ fun zs H2 a u2 i2 ha pa => ?_⟩
  subst pa
  exact ⟨(DArgs.len ha).trans hln, W, a, by rw [hgv]; exact ha, i2, hp, fun w H3 y u3 i3 hy ry => q w H3 y (u2.trans u3) i3 hy ry⟩
/-- a method, called by names alone -/
structure KMDef (P : Program) (w : World) (K : PySem.W.Frag) (mg : Str → Option Value) (base : Heap) (k : Nat) (C : Addr) (nm : Str) (ps ks : List Str) (sp : Sp) : Prop where
  ex : ∃ f fd, FnOk P w K mg base CX0 k f fd ps sp ∧ Meth K C nm f ∧ KwF K fd ps 1 ks (· ++ ·)
theorem dx_methKE {kw : Keyword} {x : A} {r : Rt C} {pre : Cns (Rt C) A → Prop} {g : Cns (Rt C) A → β} {pl : Sem Bool} (c : Cls X.K C) (B : KMDef X.prog X.w X.K X.mg X.base k C nm ps ks (SpE pre g)) (hr : Room k X.A) (h : Dx X W o σ H (· = r)) (hkw : Kx X W (kw :: kws) σ H (· = x)) (hp : pre ⟨r, x⟩) (hln : DArgs.n A = ks.length)
    (h1 : ¬ nm = "_bottom" := by decide +kernel) (h2 : ¬ nm = "_top" := by decide +kernel) (hall : (backToKw pos (keywordEach (kw :: kws) X.env)).all (·.1.isSome) = true := by rfl) (hks : (backToKw pos (keywordEach (kw :: kws) X.env)).filterMap (·.1) = ks := by rfl)
    (hpl : ((backTo pos (starEach [] X.env)).any (·.1) || (backToKw pos (keywordEach (kw :: kws) X.env)).any (·.1.isNone)) = false := by rfl)
    (ht : eval (.Call (.Attribute o nm apos) [] (kw :: kws) pos) X.env = (do
      let ov ← eval o X.env
      standAt apos.atName
      let (f, first) ← holding [ov] (getMethod ov nm pl)
      callWith pos f first (backTo pos (starEach [] X.env)) (backToKw pos (keywordEach (kw :: kws) X.env))) := by rfl) : Dx X W (.Call (.Attribute o nm apos) [] (kw :: kws) pos) σ H (· = g ⟨r, x⟩) := by
  obtain ⟨f, fd, F, hm, hb⟩ := B.ex
  obtain ⟨te, pe, ev⟩ := h
  obtain ⟨tk, pk, vk⟩ := hkw
  have pe : PE X (.Call (.Attribute o nm apos) [] (kw :: kws) pos) (fun σ H Q => te σ H fun x H1 => ∃ a dx fs, x = .ref a ∧ H1 a = some (.ins C dx fs) ∧ fs.lookup nm = none ∧ tk σ H1 fun zs H2 => zs.length = ks.length ∧ SpE pre g (.ref a :: zs) H2 Q E0) := by
    refine ⟨fun pins s σ H Q I h => ?_⟩
    refine PySem.W.methodCall_KW (pl := pl) (thn (pe.run pins s σ H _ I h) fun u s1 ⟨x, H1, I1, rx, a, dx, fs, ex, ea, l, q⟩ => ?_) ht
    subst ex
    obtain rfl : u = Value.ref a := rx
    refine getmeth_ok I1 ea c hm l ?_
    refine PySem.W.callWith_KW0 (first := [.ref a]) (h₀ := X.base) I.ok.mod.kin hm.kp hall (thn (pk.run pos pins s1 σ H1 _ I1 q) fun ws s2 ⟨zs, H2, I2, rz, l2, q2⟩ => ⟨I2.kIn, ?_⟩) hpl
    rw [hks]
    exact wpAny_call (run_kw (us := [.ref a]) (vs := [.ref a]) F hr hb I2 (.cons rfl .nil) rz rfl l2 q2)
  refine ⟨_, pe, fun H1 u hI Q q => ev H1 u hI _ fun v H2 y u2 i2 hy py => ?_⟩
  subst py
  obtain ⟨q1, dx, rfl, nM, e2⟩ := id hy
  refine ⟨q1, dx, _, rfl, e2, rfs_no _ _ h1 h2, vk H2 (u.trans u2) i2 _ fun zs H3 z u3 i3 hz pz => ?_⟩
  subst pz
  exact ⟨(DArgs.len hz).trans hln, W, ⟨y, z⟩, ⟨_, zs, rfl, Dat.up u3 hy, hz⟩, i3, hp, fun w H4 y' u4 i4 hy' ry => q w H4 y' ((u2.trans u3).trans u4) i4 hy' ry⟩
/-- the class, called by both names, the last first -/
structure KCDef (P : Program) (w : World) (K : PySem.W.Frag) (mg : Str → Option Value) (base : Heap) (k : Nat) (C : Addr) (nm : Str) : Prop where
  ex : ∃ f fd g, FnOk P w K mg base CX0 k f fd ["self", "top", "bottom"] (spInit C) ∧ Mk K C f ∧ mg nm = some (.ref C) ∧ KBn K fd ["self", "top", "bottom"] 1 ["bottom", "top"] g (fun vs zs => vs ++ zs.reverse)
theorem dx_makeKE {k1 k2 : Keyword} {t b' : Int} (B : KCDef X.prog X.w X.K X.mg X.base k C nm) (hr : Room (k + 1) X.A) (hkw : Kx X W [k1, k2] σ H (· = (⟨b', ⟨t, ⟨⟩⟩⟩ : Cns Int (Cns Int Nil)))) (h0 : b' ≠ 0) (st : Sm t) (sb : Sm b')
    (hg : Gl X nm := by rfl) (hdb : (nm == ("__debug__" : Str)) = false := by decide) (hall : (backToKw pos (keywordEach [k1, k2] X.env)).all (·.1.isSome) = true := by rfl) (hks : (backToKw pos (keywordEach [k1, k2] X.env)).filterMap (·.1) = (["bottom", "top"] : List Str) := by rfl)
    (hpl : ((backTo pos (starEach [] X.env)).any (·.1) || (backToKw pos (keywordEach [k1, k2] X.env)).any (·.1.isNone)) = false := by rfl) : Dx X W (.Call (.Name nm p) [] [k1, k2] pos) σ H (· = mk C t b') := by
  obtain ⟨f, fd, g, F, M, hm, hb⟩ := B.ex
  obtain ⟨tk, pk, vk⟩ := hkw
  refine ⟨_, pe_makeK0 (E := E0) M F hr hg hm hb pass0 pk hall hks hdb hpl, fun H1 u hI Q q => vk H1 u hI _ fun zs H2 a u2 i2 ha pa => ?_⟩
  subst pa
  obtain ⟨z1, _, rfl, e1, z2, _, rfl, e2, rfl⟩ := ha
  cases e1
  cases e2
  refine ⟨rfl, rfl, fun x dx nx ndx ne => ?_⟩
  exact made_ok i2 nx ndx ne h0 st sb fun H4 u4 i4 h4 => q _ H4 _ (u2.trans u4) i4 h4 rfl

/-! ### classes as values -/
structure Cl where
  u : V
instance : Dat Cl := ⟨fun _ _ v x => v = x.u, fun _ h => h⟩
theorem dx_ty (hm : X.mg nm = none) (hv : bootBuiltins nm = some (.type T)) (hg : Gl X nm := by rfl) (hn : nm ≠ "__name__" := by decide +kernel) (hd : (nm == ("__debug__" : Str)) = false := by decide) : Dx X W (.Name nm p) σ H (· = Cl.mk (.ty T)) :=
  ⟨_, pe_bltn (v := .ty T) (u := .type T) hg hm hv rfl hn hd, fun H1 _ hI Q q => q _ H1 _ (Up.refl _) hI rfl rfl⟩
theorem dx_cls (hm : X.mg nm = some (.ref C)) (hg : Gl X nm := by rfl) (hdb : (nm == ("__debug__" : Str)) = false := by decide) : Dx X W (.Name nm p) σ H (· = Cl.mk (.ref C)) :=
  ⟨_, pe_glob (v := .ref C) (u := .ref C) hg hm rfl hdb, fun H1 _ hI Q q => q _ H1 _ (Up.refl _) hI rfl rfl⟩
/-- C(a, b), the class in a local name -/
theorem dx_makeV {t b' : Int} {es2 : List Expr} (B : CDef X.prog X.w X.K X.mg X.base k C m) (hr : Room (k + 1) X.A) (hf : Dx X W (.Name nm p) σ H (· = Cl.mk (.ref C))) (hargs : Ax X W (e :: es) σ H (· = (⟨t, ⟨b', ⟨⟩⟩⟩ : Cns Int (Cns Int Nil)))) (h0 : b' ≠ 0) (st : Sm t) (sb : Sm b')
    (he : starEach (e :: es) X.env = (false, eval e X.env) :: starEach es X.env := by rfl) (hpl : (backTo pos (starEach es X.env)).any (·.1) = false := by rfl) : Dx X W (.Call (.Name nm p) (e :: es) [] pos) σ H (· = mk C t b') := by
  obtain ⟨f, fd, F, M, hm, hbi⟩ := B.ex
  obtain ⟨tf, pf, vf⟩ := hf
  obtain ⟨ta, pa, va⟩ := hargs
  have pe : PE X (.Call (.Name nm p) (e :: es) [] pos) (fun σ H Q => tf σ H fun c H1 => c = .ref C ∧ ta σ H1 fun vs H2 => ∀ x dx, H2 x = none → H2 dx = none → dx ≠ x → spInit C (.ref x :: (vs ++ [])) (upd (upd H2 dx (.own x)) x (.ins C dx [])) (fun v H3 => v = .non ∧ Q (.ref x) H3) E0) := by
    refine ⟨fun pins s σ H Q I h => ?_⟩
    refine wpAny_Call_Name_kw (thn (pf.run pins s σ H _ I h) fun u s1 ⟨c, H1, I1, rc, ec, q1⟩ => ?_)
    subst ec
    obtain rfl : u = Value.ref C := rc
    refine PySem.W.callWith_K (h₀ := X.base) I.ok.mod.kin M.kp (thn (pa.run pos pins s1 σ H1 _ I1 q1) fun us s2 ⟨vs, H2, I2, r, q⟩ => ⟨I2.kIn, ?_⟩) he hpl
    exact run_make M F hr hbi .nil pass0 I2 r q
  refine ⟨_, pe, fun H1 u hI Q q => vf H1 u hI _ fun v H2 z u2 i2 hz pz => ?_⟩
  subst pz
  refine ⟨hz, va H2 (u.trans u2) i2 _ fun vs H3 z u3 i3 hz pz x dx nx ndx ne => ?_⟩
  subst pz
  obtain ⟨z1, _, rfl, e1, z2, _, rfl, e2, rfl⟩ := hz
  cases e1
  cases e2
  exact made_ok i3 nx ndx ne h0 st sb fun H4 u4 i4 h4 => q _ H4 _ ((u2.trans u3).trans u4) i4 h4 rfl

/-! ### classmethods -/
structure CmDef (P : Program) (w : World) (K : PySem.W.Frag) (mg : Str → Option Value) (base : Heap) (k : Nat) (C : Addr) (nm : Str) (ps ks : List Str) (sp : Sp) : Prop where
  ex : ∃ f fd mc p, FnOk P w K mg base CX0 k f fd ps sp ∧ ClX.CRead K C mc ∧ ClX.CMet K C mc nm p f ∧ Binds K fd ps [] ∧ KwF K fd ps 1 ks (· ++ ·)
theorem dx_cmethE {x : A} {pre : Cns Cl A → Prop} {g : Cns Cl A → β} {pl : Sem Bool} (B : CmDef X.prog X.w X.K X.mg X.base k C nm ps ks (SpE pre g)) (hr : Room k X.A) (h : Dx X W o σ H (· = Cl.mk (.ref C))) (ha : Ax X W (e :: es) σ H (· = x)) (hp : pre ⟨⟨.ref C⟩, x⟩)
    (hst : starEach (e :: es) X.env = (false, eval e X.env) :: starEach es X.env := by rfl) (hpl : (backTo pos (starEach es X.env)).any (·.1) = false := by rfl)
    (ht : eval (.Call (.Attribute o nm apos) (e :: es) [] pos) X.env = (do
      let ov ← eval o X.env
      standAt apos.atName
      let (f, first) ← holding [ov] (getMethod ov nm pl)
      callWith pos f first (backTo pos (starEach (e :: es) X.env)) (backToKw pos (keywordEach [] X.env))) := by rfl) : Dx X W (.Call (.Attribute o nm apos) (e :: es) [] pos) σ H (· = g ⟨⟨.ref C⟩, x⟩) := by
  obtain ⟨f, fd, mc, q, F, R, M, hb, _⟩ := B.ex
  obtain ⟨te, pe, ev⟩ := h
  obtain ⟨ta, pa, va⟩ := ha
  refine ⟨_, ClX.pe_cmeth (E := E0) pe R M (F.raw hb .nil) hr pass0 pa hst hpl ht, fun H1 u hI Q q => ev H1 u hI _ fun v H2 y u2 i2 hy py => ?_⟩
  subst py
  refine ⟨hy, va H2 (u.trans u2) i2 _ fun vs H3 z u3 i3 hz pz => ?_⟩
  subst pz
  rw [List.append_nil]
  exact ⟨W, ⟨⟨.ref C⟩, z⟩, ⟨_, vs, rfl, rfl, hz⟩, i3, hp, fun w H4 y' u4 i4 hy' ry => q w H4 y' ((u2.trans u3).trans u4) i4 hy' ry⟩
theorem dx_cmethKE {kw : Keyword} {x : A} {pre : Cns Cl A → Prop} {g : Cns Cl A → β} {pl : Sem Bool} (B : CmDef X.prog X.w X.K X.mg X.base k C nm ps ks (SpE pre g)) (hr : Room k X.A) (h : Dx X W o σ H (· = Cl.mk (.ref C))) (hkw : Kx X W (kw :: kws) σ H (· = x)) (hp : pre ⟨⟨.ref C⟩, x⟩) (hln : DArgs.n A = ks.length)
    (hall : (backToKw pos (keywordEach (kw :: kws) X.env)).all (·.1.isSome) = true := by rfl) (hks : (backToKw pos (keywordEach (kw :: kws) X.env)).filterMap (·.1) = ks := by rfl)
    (hpl : ((backTo pos (starEach [] X.env)).any (·.1) || (backToKw pos (keywordEach (kw :: kws) X.env)).any (·.1.isNone)) = false := by rfl)
    (ht : eval (.Call (.Attribute o nm apos) [] (kw :: kws) pos) X.env = (do
      let ov ← eval o X.env
      standAt apos.atName
      let (f, first) ← holding [ov] (getMethod ov nm pl)
      callWith pos f first (backTo pos (starEach [] X.env)) (backToKw pos (keywordEach (kw :: kws) X.env))) := by rfl) : Dx X W (.Call (.Attribute o nm apos) [] (kw :: kws) pos) σ H (· = g ⟨⟨.ref C⟩, x⟩) := by
  obtain ⟨f, fd, mc, q, F, R, M, _, hb⟩ := B.ex
  obtain ⟨te, pe, ev⟩ := h
  obtain ⟨tk, pk, vk⟩ := hkw
  have pe : PE X (.Call (.Attribute o nm apos) [] (kw :: kws) pos) (fun σ H Q => te σ H fun x H1 => x = .ref C ∧ tk σ H1 fun zs H2 => zs.length = ks.length ∧ SpE pre g (.ref C :: zs) H2 Q E0) := by
    refine ⟨fun pins s σ H Q I h => ?_⟩
    refine PySem.W.methodCall_KW (pl := pl) (thn (pe.run pins s σ H _ I h) fun u s1 ⟨x, H1, I1, rx, ex, q⟩ => ?_) ht
    subst ex
    obtain rfl : u = Value.ref C := rx
    refine ClX.getmethcm_ok I1 R M fun s2 I2 => ?_
    refine PySem.W.callWith_of hpl (PySem.W.keeps_M M.fi) (evalArgs_kw2_nil hall (thn (pk.run pos _ s2 σ H1 _ I2 q) fun ws s3 ⟨zs, H2, I3, rz, l2, q2⟩ => ⟨⟨ClX.pin_at I3, I3.kIn⟩, ?_⟩))
    rw [hks]
    refine thn (wpAny_call (PySem.W.method_call (ClX.pin_at I3) (run_kw (us := [.ref C]) (vs := [.ref C]) F hr hb I3 (.cons rfl .nil) rz rfl l2 q2))) fun _ _ y => ClX.unpinE y
  refine ⟨_, pe, fun H1 u hI Q q => ev H1 u hI _ fun v H2 y u2 i2 hy py => ?_⟩
  subst py
  refine ⟨hy, vk H2 (u.trans u2) i2 _ fun zs H3 z u3 i3 hz pz => ?_⟩
  subst pz
  exact ⟨(DArgs.len hz).trans hln, W, ⟨⟨.ref C⟩, z⟩, ⟨_, zs, rfl, rfl, hz⟩, i3, hp, fun w H4 y' u4 i4 hy' ry => q w H4 y' ((u2.trans u3).trans u4) i4 hy' ry⟩
end
end Inn

set_option Elab.async false
set_option linter.all false
set_option maxRecDepth 100000
set_option maxHeartbeats 4000000
namespace Inn
open PySem L2 PySem.Spec PyProof.Rows
open Dat (Is)

/-! ### a list, or a tuple of any length -/
structure Sq (α : Type) where
  tp : Bool
  l : List α
def Sq.ho (tp : Bool) (us : List V) : HO := if tp = true then .tup us else .lst us
instance {α : Type} [Dat α] : Dat (Sq α) where
  Is W H v x := ∃ p us, v = .ref p ∧ ¬ W.M p ∧ H p = some (Sq.ho x.tp us) ∧ Paired (fun u y => Is W H u y) us x.l
  up e h := by
    obtain ⟨p, us, e1, n, e2, h1⟩ := h
    exact ⟨p, us, e1, n, e p _ n e2, paired_up e h1⟩
instance {α : Type} [Dat α] [Gr α] : Gr (Sq α) := ⟨fun hD h => by
  obtain ⟨p, us, e1, n, e2, h1⟩ := h
  exact ⟨p, us, e1, gr_M n hD e2, e2, paired_gr hD h1⟩⟩
instance {α : Type} [Dat α] [Wk α] : Wk (Sq α) := ⟨fun m h => by
  obtain ⟨p, us, e1, n, e2, h1⟩ := h
  exact ⟨p, us, e1, fun z => n (m _ z), e2, paired_wk m h1⟩⟩
section
variable {X : Cx} {W : Wld} {σ : L2.St} {H : Hp} {pos p p1 p2 apos : Pos} {a b c e o : Expr} {es : List Expr} {nm : Str} {k : Nat} {α β γ A : Type} [Dat α] [Dat β] [Dat γ] [DArgs A] {C : Addr}
theorem dx_sqL {xs : List α} (h : Dx X W e σ H (· = xs)) : Dx X W e σ H (fun y : Sq α => y = ⟨false, xs⟩) := h.as (fun l => ⟨false, l⟩) fun hx px => by subst px; exact ⟨hx, rfl⟩
/-- tuple(a list) -/
theorem dx_tupleOf {xs : List α} (h : Dx X W e σ H (· = xs)) (hm : X.mg "tuple" = none) (hg : Gl X "tuple" := by rfl) (hs : starEach (e :: []) X.env = (false, eval e X.env) :: starEach [] X.env := by rfl) : Dx X W (.Call (.Name "tuple" p) [e] [] pos) σ H (fun y : Sq α => y = ⟨true, xs⟩) := by
  obtain ⟨te, pe, ev⟩ := h
  refine ⟨_, pe_tupleOf hg hm pe hs, fun H1 u hI Q q => ev H1 u hI _ fun v H2 x u2 i2 hx px => ?_⟩
  subst px
  obtain ⟨a, us, rfl, n, e1, h1⟩ := hx
  refine .inl ⟨a, us, rfl, SqL.of e1, fun D hD => ?_⟩
  have un : Up W H2 (upd H2 D (.tup us)) := Up.new hD
  exact q _ _ ⟨true, x⟩ (u2.trans un) (I_new i2 hD) ⟨D, us, rfl, not_M i2 hD, upd_same, paired_up un h1⟩ rfl
/-- isinstance(x, (C1, C2)) -/
theorem dx_isi2 {x : Sq α} (h : Dx X W e σ H (· = x)) (hm : X.mg "isinstance" = none) (h1 : X.mg "list" = none) (h2 : X.mg "tuple" = none) {kt : Nat} {pt : Pos} (hg : Gl X "isinstance" := by rfl) (hg1 : Gl X "list" := by rfl) (hg2 : Gl X "tuple" := by rfl)
    (hs : starEach (e :: [.Tuple [.Name "list" p1, .Name "tuple" p2] kt pt]) X.env = (false, eval e X.env) :: starEach [.Tuple [.Name "list" p1, .Name "tuple" p2] kt pt] X.env := by rfl)
    (hs2 : starEach (.Tuple [.Name "list" p1, .Name "tuple" p2] kt pt :: []) X.env = (false, eval (.Tuple [.Name "list" p1, .Name "tuple" p2] kt pt) X.env) :: starEach [] X.env := by rfl) (hpl : (backTo pos (starEach [.Tuple [.Name "list" p1, .Name "tuple" p2] kt pt] X.env)).any (·.1) = false := by rfl) 
    (hs3 : starEach (.Name "list" p1 :: [.Name "tuple" p2]) X.env = (false, eval (.Name "list" p1) X.env) :: starEach [.Name "tuple" p2] X.env := by rfl) (hs4 : starEach (.Name "tuple" p2 :: []) X.env = (false, eval (.Name "tuple" p2) X.env) :: starEach [] X.env := by rfl) :
    Dx X W (.Call (.Name "isinstance" p) [e, .Tuple [.Name "list" p1, .Name "tuple" p2] kt pt] [] pos) σ H (· = true) := by
  obtain ⟨te, pe, ev⟩ := h
  obtain ⟨tt, pt', vt⟩ := dx_tupP (X := X) (W := W) (σ := σ) (H := H) (pos := pt) (k := kt) (dx_ty (p := p1) h1 (show bootBuiltins "list" = some (.type "list") by decide +kernel) hg1) (dx_ty (p := p2) h2 (show bootBuiltins "tuple" = some (.type "tuple") by decide +kernel) hg2) hs3 hs4
  refine ⟨_, pe_callB call_isiT hg hm (by decide +kernel) (pa_cons pe (pa_cons pt' pa_nil hs2) hs) (he := hs) (hpl := hpl), fun H1 u1 hI Q q => ev H1 u1 hI _ fun v H2 y u2 i2 hy py => vt H2 (u1.trans u2) i2 _ fun w H3 z u3 i3 hz pz => ?_⟩
  subst py
  obtain ⟨z1, z2⟩ := z
  obtain ⟨pz1, pz2⟩ := pz
  cases pz1
  cases pz2
  obtain ⟨pp, v1, v2, rfl, nM, e2, w1, w2⟩ := hz
  cases w1
  cases w2
  obtain ⟨a, us, rfl, n, e1, h1⟩ := Dat.up u3 hy
  have hk : ∀ T ∈ ["list", "tuple"], PySem.W.kitAny X.K (.type T) [.type "list", .type "tuple"] = some true := by
    intro T hT
    rcases List.mem_cons.mp hT with e | hT
    · subst e
      exact kitAny_cons (kit_ty (show kitB "list" "list" = some true by decide +kernel)) (fun h => nomatch h) fun _ => rfl
    · rcases List.mem_cons.mp hT with e | hT
      · subst e
        exact kitAny_cons (kit_ty (show kitB "tuple" "list" = some false by decide +kernel)) (fun _ => kitAny_cons (kit_ty (show kitB "tuple" "tuple" = some true by decide +kernel)) (fun h => nomatch h) fun _ => rfl) fun h => nomatch h
      · cases hT
  cases y with
  | mk tp l =>
    cases tp with
    | true => exact ⟨.ref a, pp, [.ty "list", .ty "tuple"], .type "tuple", [.type "list", .type "tuple"], true, rfl, e2, .cons (.ty "list") (.cons (.ty "tuple") .nil), .base (.tup e1), hk _ (by decide), q _ H3 true (u2.trans u3) i3 rfl rfl⟩
    | false => exact ⟨.ref a, pp, [.ty "list", .ty "tuple"], .type "list", [.type "list", .type "tuple"], true, rfl, e2, .cons (.ty "list") (.cons (.ty "tuple") .nil), .base (.lst e1), hk _ (by decide), q _ H3 true (u2.trans u3) i3 rfl rfl⟩
/-- [elt for x in xs], xs a list or a tuple -/
theorem dc_lcS (i : Nat) {x : Str} {px pc : Pos} {elt iter : Expr} {scope : Scope} {xs : Sq α} {R : α → β → Prop} [Gr α] [Wk β] (hit : Dx X W iter σ H (· = xs)) (hl : xs.l.length ≤ 40000)
    (he : ∀ (D : Addr) (H1 : Hp) (us : List V), Up W H H1 → W.I H1 → H1 D = none → ∀ (j : Nat) (y : α) (v : V) H2, xs.l[j]? = some y → Up (Wg W D us) H1 H2 → (Wg W D us).I H2 → Is (Wg W D us) H2 v y → Bx X (Wg W D us) scope elt ((σ.set i none).set i (some v)) H2 (R y))
    (hc : X.calm = true) (hN : X.N.Nodup) (ok : BlkOk X.N X.env.scope scope [(x, i)])
    (hg : ∀ (s : Shared) (H : Hp) (C : Addr) (cl : List (Str × Addr)) (fp : List Addr), PG (X.blk s H scope (compEnvC scope cl C X.env) fp) (.Name x px) (gName i)) (hs : ∀ x, foldedSetIterable iter X.env x = pure x := by intro _; rfl) :
    Dc X W (.ListComp elt [⟨.Name x px, iter, [], 0⟩] scope pc) σ H (fun ys => Mapd R xs.l ys) := by
  obtain ⟨tp, l⟩ := xs
  cases tp with
  | false => exact dc_lc i (hit.as (fun y : Sq α => y.l) fun hx px => by subst px; exact ⟨hx, rfl⟩) hl he hc hN ok hg hs
  | true =>
    obtain ⟨ti, pi, vi⟩ := hit
    refine ⟨_, pe_lc (own := [(x, i)]) hc hN (pi_tup pi) ok hg (fun _ _ _ _ _ => pts_nil) (fun _ _ _ _ _ => pe_tBx) hs, fun h1 h2 h3 => ps_setLc (own := [(x, i)]) hc hN h1 h2 h3 (pi_tup pi) ok hg (fun _ _ _ _ _ => pts_nil) (fun _ _ _ _ _ => pe_tBx) hs, fun H1 u1 i1 Q q => vi H1 u1 i1 _ fun v H2 zs u2 i2 hv ez => ?_⟩
    subst ez
    obtain ⟨a, us, rfl, n, e1, h1⟩ := id hv
    have e1' : H2 a = some (.tup us) := e1
    refine ⟨a, rfl, ⟨_, SqT.of e1'⟩, fun D hD => lc_tup (xs := us) (fun j H' => LcW W R l H2 D j H') ⟨up_at, [], [], ⟨I_new i2 hD, upd_same⟩, .nil, .nil⟩ (fun j H' _ p => SqT.of (p.1 a _ (gr_M n hD e1') e1')) (fun j w H' hw p => ?_) (fun H' p => ?_)⟩
    · obtain ⟨y, hy, hwy⟩ := paired_getL h1 hw
      have hset : ((σ.set i none).set i (some w)).set i none = σ.set i none := by rw [List.set_set, List.set_set]
      refine ⟨hset, ?_⟩
      exact lcw_turn (not_M i2 hD) hy (show l.length ≤ 100000 from Nat.le_trans hl (by decide)) p fun us' pI => (he D H2 us' (u1.trans u2) i2 hD j y w H' hy p.1 pI (Dat.up (W := Wg W D us') p.1 (Gr.gr hD hwy))).ev
    · obtain ⟨p1, us', ys, p2, h2, h3⟩ := p
      rw [paired_len h1, List.take_length] at h3
      have uu := up_wg p1 hD
      exact q (.ref D) H' ys (u2.trans uu) p2.1 ⟨D, us', rfl, not_M i2 hD, p2.2, paired_wk wg_sub h2⟩ h3
end
end Inn

set_option Elab.async false
set_option linter.all false
set_option maxRecDepth 100000
set_option maxHeartbeats 4000000
namespace Inn
open PySem L2 PySem.Spec PyProof.Rows
open Dat (Is)
section
variable {X : Cx} {W : Wld} {σ : L2.St} {H : Hp} {pos : Pos} {a b c e : Expr} {es : List Expr} {α β γ A : Type} [Dat α] [Dat β] [Dat γ] [DArgs A] {D : Ends} {sts : List Stmt}
/-- a, b, c = x, y, z -/
theorem wss_par3 (i j l : Nat) {n1 n2 n3 : Str} {x : α} {y : β} {z : γ} {p1 p2 p3 pt pt2 : Pos} {kt k2} (ha : Ax X W [a, b, c] σ H (· = (⟨x, ⟨y, ⟨z, ⟨⟩⟩⟩⟩ : Cns α (Cns β (Cns γ Nil))))) (hI : W.I H)
    (k : ∀ u v w H1, Up W H H1 → W.I H1 → Is W H1 u x → Is W H1 v y → Is W H1 w z → Wss X sts D (((σ.set i (some u)).set j (some v)).set l (some w)) H1) (hc : X.calm = true) (nd : X.N.Nodup) (hi : X.N[i]? = some n1 := by rfl) (hj : X.N[j]? = some n2 := by rfl) (hl : X.N[l]? = some n3 := by rfl) (hij : i ≠ j := by decide) (hil : i ≠ l := by decide) (hjl : j ≠ l := by decide)
    (hx : X.env.scope.names.lookup n1 = some .local := by rfl) (hy : X.env.scope.names.lookup n2 = some .local := by rfl) (hz : X.env.scope.names.lookup n3 = some .local := by rfl)
    (hw : swappedStores [.Tuple [.Name n1 p1, .Name n2 p2, .Name n3 p3] kt pt] (.Tuple [a, b, c] k2 pt2) X.env = pure (some [n1, n2, n3]) := by rfl)
    (hs : swapsWithSole [.Tuple [.Name n1 p1, .Name n2 p2, .Name n3 p3] kt pt] (.Tuple [a, b, c] k2 pt2) pos.line X.env = pure false := by rfl) :
    Wss X (.Assign [.Tuple [.Name n1 p1, .Name n2 p2, .Name n3 p3] kt pt] (.Tuple [a, b, c] k2 pt2) pos :: sts) D σ H := by
  obtain ⟨ta, pa, va⟩ := ha
  refine ⟨_, pss_cons (ps_par3 hc nd hi hj hl hij hil hjl hx hy hz pa hw hs) wss_all, va H (Up.refl _) hI _ fun vs H1 r u1 i1 hr er => ?_⟩
  subst er
  obtain ⟨v1, _, rfl, h1, v2, _, rfl, h2, v3, _, rfl, h3, rfl⟩ := hr
  exact ⟨v1, v2, v3, rfl, k v1 v2 v3 H1 u1 i1 h1 h2 h3⟩
/-- five names at once -/
theorem wss_par5 (j1 j2 j3 j4 j5 : Nat) {n1 n2 n3 n4 n5 : Str} {p1 p2 p3 p4 p5 pt pt2 : Pos} {kt k2} {x : A} (ha : Ax X W es σ H (· = x)) (hn5 : DArgs.n A = 5) (hI : W.I H)
    (k : ∀ v1 v2 v3 v4 v5 H1, Up W H H1 → W.I H1 → DArgs.Is W H1 [v1, v2, v3, v4, v5] x → Wss X sts D (((((σ.set j1 (some v1)).set j2 (some v2)).set j3 (some v3)).set j4 (some v4)).set j5 (some v5)) H1) (hc : X.calm = true) (nd : X.N.Nodup)
    (hN1 : X.N[j1]? = some n1 := by rfl) (hN2 : X.N[j2]? = some n2 := by rfl) (hN3 : X.N[j3]? = some n3 := by rfl) (hN4 : X.N[j4]? = some n4 := by rfl) (hN5 : X.N[j5]? = some n5 := by rfl)
    (hx1 : X.env.scope.names.lookup n1 = some .local := by rfl) (hx2 : X.env.scope.names.lookup n2 = some .local := by rfl) (hx3 : X.env.scope.names.lookup n3 = some .local := by rfl) (hx4 : X.env.scope.names.lookup n4 = some .local := by rfl) (hx5 : X.env.scope.names.lookup n5 = some .local := by rfl)
    (ha1 : (assignEach (.Name n1 p1 :: [.Name n2 p2, .Name n3 p3, .Name n4 p4, .Name n5 p5]) X.env).map (·.2) = assign (.Name n1 p1) X.env :: (assignEach [.Name n2 p2, .Name n3 p3, .Name n4 p4, .Name n5 p5] X.env).map (·.2) := by rfl)
    (ha2 : (assignEach (.Name n2 p2 :: [.Name n3 p3, .Name n4 p4, .Name n5 p5]) X.env).map (·.2) = assign (.Name n2 p2) X.env :: (assignEach [.Name n3 p3, .Name n4 p4, .Name n5 p5] X.env).map (·.2) := by rfl)
    (ha3 : (assignEach (.Name n3 p3 :: [.Name n4 p4, .Name n5 p5]) X.env).map (·.2) = assign (.Name n3 p3) X.env :: (assignEach [.Name n4 p4, .Name n5 p5] X.env).map (·.2) := by rfl)
    (ha4 : (assignEach (.Name n4 p4 :: [.Name n5 p5]) X.env).map (·.2) = assign (.Name n4 p4) X.env :: (assignEach [.Name n5 p5] X.env).map (·.2) := by rfl)
    (ha5 : (assignEach (.Name n5 p5 :: []) X.env).map (·.2) = assign (.Name n5 p5) X.env :: (assignEach [] X.env).map (·.2) := by rfl)
    (hn : (assignEach [.Name n1 p1, .Name n2 p2, .Name n3 p3, .Name n4 p4, .Name n5 p5] X.env).length = 5 := by rfl) (hst : (assignEach [.Name n1 p1, .Name n2 p2, .Name n3 p3, .Name n4 p4, .Name n5 p5] X.env).findIdx? (·.1) = none := by rfl)
    (hs : swapsWithSole [.Tuple [.Name n1 p1, .Name n2 p2, .Name n3 p3, .Name n4 p4, .Name n5 p5] kt pt] (.Tuple es k2 pt2) pos.line X.env = pure false := by rfl) (hw : swappedStores [.Tuple [.Name n1 p1, .Name n2 p2, .Name n3 p3, .Name n4 p4, .Name n5 p5] kt pt] (.Tuple es k2 pt2) X.env = pure none := by rfl)
    (h1 : (assignEach [.Tuple [.Name n1 p1, .Name n2 p2, .Name n3 p3, .Name n4 p4, .Name n5 p5] kt pt] X.env).map (·.2) = [assign (.Tuple [.Name n1 p1, .Name n2 p2, .Name n3 p3, .Name n4 p4, .Name n5 p5] kt pt) X.env] := by rfl) :
    Wss X (.Assign [.Tuple [.Name n1 p1, .Name n2 p2, .Name n3 p3, .Name n4 p4, .Name n5 p5] kt pt] (.Tuple es k2 pt2) pos :: sts) D σ H := by
  obtain ⟨ta, pa, va⟩ := ha
  refine ⟨_, pss_cons (ps_asg (pe_tup pa) (pg_tup hc (pgs_cons (pg_name (i := j1) nd hN1 (.inl hx1) (.inr hx1)) (pgs_cons (pg_name (i := j2) nd hN2 (.inl hx2) (.inr hx2)) (pgs_cons (pg_name (i := j3) nd hN3 (.inl hx3) (.inr hx3)) (pgs_cons (pg_name (i := j4) nd hN4 (.inl hx4) (.inr hx4)) (pgs_cons (pg_name (i := j5) nd hN5 (.inl hx5) (.inr hx5)) pgs_nil ha5) ha4) ha3) ha2) ha1) hn hst) hs hw h1) wss_all, va H (Up.refl _) hI _ fun vs H1 r u1 i1 hr er => ?_⟩
  subst er
  have hl := (DArgs.len hr).trans hn5
  match vs, hl, hr with
  | [v1, v2, v3, v4, v5], _, hr =>
    refine ⟨by show 5 ≤ sizeLine; decide, fun p hp => ?_⟩
    refine ⟨p, [v1, v2, v3, v4, v5], rfl, SqT.of upd_same, rfl, v1, _, rfl, v2, _, rfl, v3, _, rfl, v4, _, rfl, v5, _, rfl, rfl, ?_⟩
    exact k v1 v2 v3 v4 v5 _ (u1.trans (Up.new hp)) (I_new i1 hp) (DArgs.up (Up.new hp) hr)
end
end Inn

set_option Elab.async false
set_option linter.all false
set_option maxRecDepth 100000
set_option maxHeartbeats 4000000
namespace Inn
open PySem L2 PySem.Spec PyProof.Rows
open Dat (Is)
section
variable {X : Cx} {W : Wld} {σ : L2.St} {H : Hp} {pos p : Pos} {a b c e : Expr} {es : List Expr} {nm : Str} {α β γ A : Type} [Dat α] [Dat β] [Dat γ] [DArgs A] {D : Ends} {sts bd : List Stmt} {C : Addr}
/-- name = [], a list that is to grow -/
theorem wss_newL (i : Nat) {pos' : Pos} (q : ∀ p, H p = none → Wss X sts D (σ.set i (some (.ref p))) (upd H p (.lst []))) (nd : X.N.Nodup)
    (hi : X.N[i]? = some nm := by rfl) (hx : Loc X.env.scope nm := by first | exact Or.inl rfl | exact Or.inr rfl) (hs : swapsWith (.List [] p) (some (.Name nm pos')) pos.line X.env = pure false := by rfl) (hf : X.fn nm = true ∨ X.env.scope.names.lookup nm = some .local := by first | exact .inl rfl | exact .inr rfl) :
    Wss X (.Assign [.Name nm pos'] (.List [] p) pos :: sts) D σ H :=
  ⟨_, pss_cons (ps_set nd hi hx (pe_lst pa_nil) hs hf) wss_all, by show 0 ≤ sizeLine; decide, fun p hp => q p hp⟩
/-- for k in range(n), what holds said in full -/
theorem wss_forRv (j : Nat) {n : Int} {p1 p2 pr : Pos} {ea : Expr} (hi : Dx X W ea σ H (· = n)) (hI : W.I H) (hn0 : 0 ≤ n) (hn1 : n ≤ 100000) (Pv : Nat → L2.St → Hp → Prop) (nd : X.N.Nodup) (hp : PassesOwn (model X.prog X.w) X.A X.env X.xe) (hc : X.calm = true) (hm : X.mg "range" = none)
    (h0 : ∀ H1, Up W H H1 → W.I H1 → Pv 0 σ H1)
    (hs : ∀ (i : Nat) σ' H', (i : Int) < n → Pv i σ' H' → Wss X bd { D with nx := Pv (i + 1), ct := Pv (i + 1), bk := fun σ2 H2 => Wss X sts D σ2 H2 } (σ'.set j (some (.int (i : Int)))) H')
    (hd : ∀ σ' H', Pv n.toNat σ' H' → Wss X sts D σ' H') (hg : Gl X "range" := by rfl) (hN : X.N[j]? = some nm := by rfl) (hx : L2.Loc X.env.scope nm := by first | exact Or.inl rfl | exact Or.inr rfl) (hf : X.fn nm = true ∨ X.env.scope.names.lookup nm = some .local := by first | exact .inl rfl | exact .inr rfl)
    (hst : starEach (ea :: []) X.env = (false, eval ea X.env) :: starEach [] X.env := by rfl) (hst2 : starEach [ea] X.env = [(false, eval ea X.env)] := by rfl) (hfs : ∀ x, foldedSetIterable (.Call (.Name "range" p2) [ea] [] pr) X.env x = pure x := by intro _; rfl) :
    Wss X (.For (.Name nm p1) (.Call (.Name "range" p2) [ea] [] pr) bd [] pos :: sts) D σ H := by
  obtain ⟨te, pe, ev⟩ := hi
  refine ⟨_, pss_cons (ps_for hp hc (pi_range1 hg hm (pa_cons pe pa_nil hst) hst2) (pg_name (i := j) nd hN hx hf) wss_all hfs) wss_all, ev H (Up.refl _) hI _ fun v H1 m u1 i1 hv em => ?_⟩
  subst em
  cases hv
  refine ⟨m, rfl, by omega, by omega, for_range (lo := 0) (n := m.toNat) Pv (h0 H1 u1 i1) (fun i σ' H' hi q => ?_) (fun σ' H' q => hd σ' H' q)⟩
  have e0 : (0 : Int) + (i : Int) = (i : Int) := Int.zero_add _
  show Wss X bd { D with nx := Pv (i + 1), ct := Pv (i + 1), bk := _ } (σ'.set j (some (.int ((0 : Int) + (i : Int))))) H'
  rw [e0]
  exact hs i σ' H' (by omega) q
theorem pot_wg {x : Pot} {H' : Hp} {q : Addr} {us : List V} {v : V} (hn : ¬ W.M q) (h : Is W H v x) : Is (Wg W q us) H' v x := by
  obtain ⟨e, P⟩ := h
  have ne : x.l ≠ q := fun z => hn (by rw [← z]; exact P.m)
  exact ⟨e, .inl P.m, fun h => P.rd h.1, fun a b h h1 h2 h3 => ⟨P.wr a b h.1 h1 h2 h3, by rw [upd_ne ne.symm]; exact h.2⟩⟩
/-- {} as a value of any kind -/
theorem dx_vdD : Dx X W (.Dict [] [] pos) σ H (fun y : Vd C => y = .dct) :=
  ⟨_, pe_dnewK, fun H1 _ hI Q q p hp => q _ _ (Vd.dct : Vd C) (Up.new hp) (I_new hI hp) (show ∃ p_1 us, V.ref p = V.ref p_1 ∧ ¬W.M p_1 ∧ upd H1 p (HO.dK []) p_1 = some (HO.dK us) from ⟨p, [], rfl, not_M hI hp, upd_same⟩) rfl⟩
end
end Inn

set_option Elab.async false
set_option linter.all false
set_option maxRecDepth 100000
set_option maxHeartbeats 4000000
namespace Inn
open PySem L2 PySem.Spec PyProof.Rows
open Dat (Is)
/-! ### the script, as the caller hands it -/
structure Scr (K : PySem.W.Frag) where
  l : List Int
instance {K : PySem.W.Frag} : Dat (Scr K) where
  Is W H v x := ∃ a, v = .ref a ∧ ¬ W.M a ∧ SqL K H a (x.l.map V.int)
  up e h := by
    obtain ⟨a, e1, n, h1⟩ := h
    refine ⟨a, e1, n, ?_⟩
    rcases h1 with h1 | h1
    · refine .inl ?_
      rcases h1 with h1 | ⟨o, h1⟩
      · exact .inl (e a _ n h1)
      · exact .inr ⟨o, e a _ n h1⟩
    · exact .inr h1
section
variable {X : Cx} {W : Wld} {σ : L2.St} {H : Hp} {pos p : Pos} {a e i : Expr} {x : Scr X.K}
theorem dx_lenS (h : Dx X W e σ H (· = x)) (hm : X.mg "len" = none) (hg : Gl X "len" := by rfl) (hs : starEach (e :: []) X.env = (false, eval e X.env) :: starEach [] X.env := by rfl) (hpl : (backTo pos (starEach [] X.env)).any (·.1) = false := by rfl) :
    Dx X W (.Call (.Name "len" p) [e] [] pos) σ H (fun y : Int => y = (x.l.length : Nat)) := dx_cb1 call_len_seq h hm PySem.boot_len (fun v H1 y Q _ hI hx px q => by
  subst px
  obtain ⟨b, e0, n, h1⟩ := hx
  subst e0
  have q' : Q (.int ((y.l.map V.int).length : Nat)) H1 := by
    rw [List.length_map]
    exact q _ H1 _ (Up.refl _) hI rfl rfl
  exact ⟨b, _, rfl, .inl h1, q'⟩) hg (hs := hs) (hpl := hpl)
theorem dx_ixS {n : Nat} {z : Int} (h : Dx X W a σ H (· = x)) (hi : Dx X W i σ H (fun z : Int => z = n)) (hx : x.l[n]? = some z) (hs : PlainIx i := by exact fun _ _ => rfl) : Dx X W (.Subscript a i pos) σ H (· = z) := by
  obtain ⟨ta, pa, va⟩ := h
  obtain ⟨ti, pi, vi⟩ := hi
  refine ⟨_, pe_ix ix_list pa pi hs, fun H1 u hI Q q => va H1 u hI _ fun v H2 y u2 i2 hy py => vi H2 (u.trans u2) i2 _ fun w H3 m u3 i3 hm pm => ?_⟩
  subst py; subst pm
  obtain ⟨b, e0, nM, h1⟩ := Dat.up u3 hy
  subst e0
  cases hm
  have hw : (y.l.map V.int)[n]? = some (.int z) := by rw [List.getElem?_map, hx]; rfl
  exact ⟨b, _, n, _, rfl, rfl, h1, atI_nat hw, q _ H3 _ (u2.trans u3) i3 rfl rfl⟩
end

/-! ### the law's call, where no text is being made -/
section
variable {P : Program} {w : World} {K : PySem.W.Frag} {mg mb : Str → Option Value} {k : Nat} {fa a : Addr} {fd : FuncData} {x : Str} {sp : Sp} {s1 : Shared} {vs : List Value} {ns : List Int}
/-- the law's def is run over the abstract heap T, in which the script alone may stand -/
theorem callG_core {T : Hp} (inK : K.In s1.heap) (gl : s1.heap.Ns mainGlobals mg) (bn : s1.heap.Ns builtinsNs mb) (bo : ∀ x : Str, x ≠ "__name__" → mb x = bootBuiltins x) (nl : s1.heap.NoLimit) (ge : s1.gens = #[])
    (obj : s1.heap.get? a = some { cls := .type "list", data := .seq vs.toArray }) (rm : Room k callerA)
    (F : ∀ base : Heap, K.In base → base.Ns mainGlobals mg → FnG P w K mg base k fa fd [x] sp) (bd : ∀ (s : Shared) (u : Value), BindsTo s fd ⟨[u], []⟩ [(x, u)]) (okT : HOk P w T s1.heap)
    (onlyT : Only T) (hs : sp [.ref a] T (fun v _ => v = .bl true) E0) (at_ : ∀ c, T c ≠ none → c = a) (notK : T a ≠ none → K.lookup a = none) :
    codeAny (model P w) callerA (.call (.ref fa) ⟨[.ref a], []⟩) (fun r s' => r = .ok (.ret (.bool true)) ∧ OldK s1.heap s'.heap ∧ s'.os = s1.os ∧ AllBare s'.gens) s1 := by
  have free : ∀ {c : Addr} {u : Obj}, s1.heap.get? c = some u → (∀ z, u ≠ { cls := .type "list", data := .seq z }) → T c = none := fun {c u} g d => by
    by_cases z : T c = none
    · exact z
    · have ec := at_ c z
      rw [ec, obj] at g
      exact absurd (Option.some.inj g).symm (d _)
  have seen : ∀ {c : Addr} {u : Obj}, s1.heap.get? c = some u → T c = none → (hidT s1.heap T).get? c = some u := fun g z => hidT_get g z
  have spaces : ∀ {c : Addr} {m : Str → Option Value}, s1.heap.Ns c m → (hidT s1.heap T).Ns c m := by
    rintro c m ⟨u, en, ep, g, d, rest⟩
    refine ⟨u, en, ep, seen g (free g fun z h => ?_), d, rest⟩
    rw [h] at d
    exact absurd d (by intro h2; cases h2)
  have kept : K.In (hidT s1.heap T) := fun c u g => seen (inK c u g) (by
    by_cases z : T c = none
    · exact z
    · have ec := at_ c z
      rw [ec] at g z
      have := notK z
      rw [g] at this
      cases this)
  obtain ⟨lim, l1, l2⟩ := nl
  have module : Mod K mg (hidT s1.heap T) := ⟨kept, spaces gl, ⟨mb, spaces bn, bo⟩, lim, spaces l1, l2⟩
  have start0 : Env0 P w K mg (hidT s1.heap T) callerA [] s1 T := ⟨rfl, module, fun c u g => of_hidT g, Nat.le_of_eq (hidT_size _ _), trivial, (fun c hc => nomatch hc), okT, .of_eq ge⟩
  refine codeAny_mono ((F _ kept (spaces gl)).go callerA [] s1 T ⟨[.ref a], []⟩ [.ref a] [.ref a] _ rfl rm start0 (bd s1 (.ref a)) (.cons rfl .nil) hs) ?_
  rintro r s2 ⟨u, rfl, v, H2, os2, bare2, un2, ok2, rel2, ev⟩
  have ev : v = .bl true := ev
  subst ev
  have eu : u = Value.bool true := rel2
  subst eu
  refine ⟨rfl, OldK.of_keep fun c o g => ?_, os2, bare2⟩
  rcases onlyT c with z | ⟨ob, xs, z⟩
  · exact un2.keep c o g z (fun m => nomatch m) (by simp)
  · have later := un2.frzs c ob _ z
    obtain ⟨g1, _⟩ := okT c _ z
    obtain ⟨g2, _⟩ := ok2 c _ later
    rw [g] at g1
    cases g1
    exact g2
theorem callG (inK : K.In s1.heap) (gl : s1.heap.Ns mainGlobals mg) (bn : s1.heap.Ns builtinsNs mb) (bo : ∀ x : Str, x ≠ "__name__" → mb x = bootBuiltins x) (nl : s1.heap.NoLimit) (ge : s1.gens = #[])
    (obj : s1.heap.get? a = some { cls := .type "list", data := .seq vs.toArray }) (itz : IntsAre vs ns) (few : ns.length ≤ sizeLine) (rm : Room k callerA)
    (F : ∀ base : Heap, K.In base → base.Ns mainGlobals mg → FnG P w K mg base k fa fd [x] sp) (bd : ∀ (s : Shared) (u : Value), BindsTo s fd ⟨[u], []⟩ [(x, u)])
    (hs : ∀ T : Hp, Only T → SqL K T a (ns.map V.int) → sp [.ref a] T (fun v _ => v = .bl true) E0) :
    codeAny (model P w) callerA (.call (.ref fa) ⟨[.ref a], []⟩) (fun r s' => r = .ok (.ret (.bool true)) ∧ OldK s1.heap s'.heap ∧ s'.os = s1.os ∧ AllBare s'.gens) s1 := by
  have rel := vals_ints itz
  have lv := itz.length
  by_cases inside : K.lookup a = none
  · -- its own object: frozen
    let fz : HO := .frz { cls := .type "list", data := .seq vs.toArray } (.lst (ns.map V.int))
    let T : Hp := fun c => if c = a then some fz else none
    have Ta : T a = some fz := if_pos rfl
    have To : ∀ {c}, c ≠ a → T c = none := fun z => if_neg z
    have only : Only T := fun c => by
      by_cases z : c = a
      · exact .inr ⟨_, _, by rw [z]; exact Ta⟩
      · exact .inl (To z)
    refine callG_core (T := T) inK gl bn bo nl ge obj rm F bd (fun c u z => ?_) only (hs T only (.inl (.inr ⟨_, Ta⟩))) (fun c z => ?_) fun _ => inside
    · by_cases e : c = a
      · subst e
        rw [Ta] at z
        cases z
        exact ⟨obj, by rw [List.length_map]; exact few, vs, _, rel, obj⟩
      · rw [To e] at z
        cases z
    · by_cases e : c = a
      · exact e
      · exact absurd (To e) z
  · -- one of the module's objects
    obtain ⟨o, ho⟩ := Option.ne_none_iff_exists'.mp inside
    have same := inK a o ho
    rw [obj] at same
    cases same
    have none_ : Only fun _ => none := fun _ => .inl rfl
    refine callG_core (T := fun _ => none) inK gl bn bo nl ge obj rm F bd (fun c u z => nomatch z) none_ (hs _ none_ (.inr ⟨_, vs.toArray, _, ho, rfl, rfl, rfl, ?_, ?_⟩)) (fun c z => absurd rfl z) fun z => absurd rfl z
    · rw [List.size_toArray, lv]
      exact few
    · simpa using rel
end
/-- the walk of a law whose def shows lists -/
theorem walkG {l : PySem.W.OpenLaw} {n k : Nat} {q : Program} {loose : List Str} {XP : (Str → Option Value) → Heap → Prop} {YP : World → Heap → Prop} {d : DefRec} {K : Params → PySem.W.Frag} {sp : World → Sp} {x : Str}
    (most : l.most = some n) (small : n ≤ sizeLine) (nodef : d.params.defaults = []) (rm : Room k callerA) (inY : ∀ (w : World) (h : Heap), YP w h → (K w.params).In h)
    (F : ∀ (w : World) (mg : Str → Option Value) (fa : Addr) (h : Heap), (K w.params).In h → h.Ns mainGlobals mg → mg d.name = some (.ref fa) →
      ∃ fd : FuncData, (∀ (s : Shared) (u : Value), BindsTo s fd ⟨[u], []⟩ [(x, u)]) ∧ ∀ base : Heap, (K w.params).In base → base.Ns mainGlobals mg → FnG l.prog w (K w.params) mg base k fa fd [x] (sp w))
    (hs : ∀ (w : World) (T : Hp) (a : Addr) (ns : List Int), ns.length ≤ n → Only T → SqL (K w.params) T a (ns.map V.int) → sp w [.ref a] T (fun v _ => v = .bl true) E0) :
    PySem.W.WalkO q loose XP YP l.row.toRowW d [] (fun f vs => PySem.call f vs) := by
  refine Att.attach_call most nodef fun w s0 s1 mg mb fa o pm cd doc a vs ns G Y ho hd hcd named obj itz len ge => ?_
  have inK := inY w _ Y
  obtain ⟨fd, bd, all⟩ := F w mg fa _ inK G.T.g named
  exact callG inK G.T.g G.T.b G.T.builtins G.T.nolimit ge obj itz (Nat.le_trans len small) rm all bd fun T oT hS => hs w T a ns len oT hS
end Inn

set_option Elab.async false
set_option linter.all false
set_option maxRecDepth 100000
set_option maxHeartbeats 4000000
namespace Inn
open PySem L2 PySem.Spec PyProof.Rows
/-! ### a head that tells one truth over the written part, and defs by places -/
def seeX (ok : PySem.W.Frag → Bool) (fn : List He5.DefA) (K : PySem.W.Frag) : He.AlD := (ok K && fn.all fun d => d.ok K, fn.map fun d => He5.fnA K (d.at_ K))
def dueX (fn : List He5.DefA) : He.AlD := (true, fn.map He5.DefA.val)
def TellX (ok : PySem.W.Frag → Bool) (fn : List He5.DefA) (K : PySem.W.Frag) : Prop := seeX ok fn K = dueX fn
def atX (n : Nat) (ok : PySem.W.Frag → Bool) (fn : List He5.DefA) (g : Addr → Option Obj) : He.AlD := seeX ok fn (He.frG g (He5.asA g n))
def hookX (n : Nat) (ok : PySem.W.Frag → Bool) (fn : List He5.DefA) : PySem.W.Hook where
  α := He.AlD
  obs := fun s => atX n ok fn s.heap.get?
  val := fun _ => dueX fn
  says := fun _ h => ∃ K : PySem.W.Frag, K.In h ∧ TellX ok fn K
  of := fun _ _ e => ⟨_, He.frG_in, e⟩
  keeps := fun _ _ _ ⟨K, hK, c⟩ k => ⟨K, PySem.W.Frag.In.keeps hK k, c⟩
theorem atX_eq {n : Nat} {ok : PySem.W.Frag → Bool} {fn : List He5.DefA} {g : Addr → Option Obj} {s : Shared} (h : ∀ a, g a = s.heap.get? a) : atX n ok fn g = (hookX n ok fn).obs s := by
  have e : g = s.heap.get? := funext h
  rw [e] <;> rfl
theorem TellX.truth {ok : PySem.W.Frag → Bool} {fn : List He5.DefA} {K : PySem.W.Frag} (c : TellX ok fn K) : ok K = true := (He.ba (show (ok K && fn.all fun d => d.ok K) = true from congrArg (fun z : He.AlD => z.1) c)).1
theorem TellX.def_ {ok : PySem.W.Frag → Bool} {fn : List He5.DefA} {K : PySem.W.Frag} (c : TellX ok fn K) (i : Nat) {d : He5.DefA} (h : fn[i]? = some d := by rfl) : ∃ fd, L2.FunD K d.name d.qual d.params d.body d.scope (d.dvs K) (d.kws K) (d.at_ K) fd := by
  have c2 := (He.ba (show (ok K && fn.all fun d => d.ok K) = true from congrArg (fun z : He.AlD => z.1) c)).2
  have e : fn.map (fun d => He5.fnA K (d.at_ K)) = fn.map He5.DefA.val := congrArg (fun z : He.AlD => z.2) c
  have e2 := congrArg (fun l => l[i]?) e
  simp only [List.getElem?_map, h] at e2
  exact He5.DefA.funD (Option.some.inj e2) (List.all_eq_true.mp c2 d (List.mem_of_getElem? h))
end Inn

set_option Elab.async false
set_option linter.all false
set_option maxRecDepth 100000
set_option maxHeartbeats 4000000
set_option exponentiation.threshold 20000
namespace K11
open PySem L2 Inn
open Dat (Is)
def top (i : Nat) : Stmt := PySem.Challenge.pw_innerfractions_k11_ratios_reckoned.main.body.getD i (.Pass ⟨0, 0, 0, 0⟩)
abbrev cm (i : Nat) : Stmt := inClass (top 9) i
/-- what the module's names hold -/
structure Txt (K : PySem.W.Frag) (mg : Str → Option Value) (C : Addr) : Prop where
  O : Own K C
  nT : NoAttr K C "_top"
  nB : NoAttr K C "_bottom"
  mgC : mg "Ratio" = some (.ref C)
  isi : mg "isinstance" = none
  int : mg "int" = none
  bool : mg "bool" = none
  abs : mg "abs" = none
  max : mg "max" = none
  str : mg "str" = none
  repr : mg "repr" = none
  len : mg "len" = none
  sum : mg "sum" = none
  all : mg "all" = none
  divmod : mg "divmod" = none
  range : mg "range" = none
  lst : mg "list" = none
  tup : mg "tuple" = none
  gcd : mg "gcd" = some (.builtin "math.gcd")
  lcm : mg "lcm" = some (.builtin "math.lcm")
section
variable {P : Program} {w : World} {K : PySem.W.Frag} {mg : Str → Option Value} {base : Heap} {f C : Addr} {fd : FuncData}
def isIntV (x : Vd C) : Bool := x.isInt && !x.isBl
theorem sc2 : FnScope ["value"] ["value"] (defScope (top 2)) := ⟨rfl, rfl, rfl, by decide +kernel, rfl, by decide +kernel, by decide +kernel⟩
theorem ok_is_integer (F : Fun K "is_integer" "is_integer" (top 2) f fd) (T : Txt K mg C) : FnOk P w K mg base CX0 1 f fd ["value"] (SpF (fun _ : Cns (Vd C) Nil => True) fun a y => y = isIntV a.h) := by
  refine fn_body F sc2 rfl fun cdv A' outer s H E W vs ⟨x, ⟨⟩⟩ Q hr hargs hI hp k => ?_
  obtain ⟨v, _, rfl, hv, rfl⟩ := hargs
  exact wss_ret (dx_and' (dx_isInt T.O (dx_var 0 hv) T.isi T.int) (dx_one (dx_not (dx_isBl T.O (dx_var 0 hv) T.isi T.bool)))) hI fun u H1 y u1 i1 hy ey => k u H1 y u1 i1 hy ey
def isCountV : Vd C → Bool
  | .int i => decide (0 ≤ i)
  | _ => false
theorem sc3 : FnScope ["value"] ["value"] (defScope (top 3)) := ⟨rfl, rfl, rfl, by decide +kernel, rfl, by decide +kernel, by decide +kernel⟩
abbrev DInt (P : Program) (w : World) (K : PySem.W.Frag) (mg : Str → Option Value) (base : Heap) (C : Addr) : Prop := Def P w K mg base 1 "is_integer" ["value"] (SpE (fun _ : Cns (Vd C) Nil => True) fun a => isIntV a.h)
theorem ok_is_count (F : Fun K "is_count" "is_count" (top 3) f fd) (T : Txt K mg C) (D1 : DInt P w K mg base C) : FnOk P w K mg base CX0 2 f fd ["value"] (SpF (fun _ : Cns (Vd C) Nil => True) fun a y => y = isCountV a.h) := by
  refine fn_body F sc3 rfl fun cdv A' outer s H E W vs ⟨x, ⟨⟩⟩ Q hr hargs hI hp k => ?_
  obtain ⟨v, _, rfl, hv, rfl⟩ := hargs
  refine wss_ret (P := fun y => y = isCountV x) ?_ hI fun u H1 y u1 i1 hy ey => k u H1 y u1 i1 hy ey
  cases x with
  | int i => exact dx_and' (k := true) (l := decide (0 ≤ i)) ((dx_callE D1 hr (ax_cons (dx_var 0 hv) ax_nil) trivial).to rfl) (dx_one (dx_ge (dx_var (α := Int) 0 hv) dx_int))
  | _ => exact dx_and (k := false) (l := true) ((dx_callE D1 hr (ax_cons (dx_var 0 hv) ax_nil) trivial).to rfl) (fun h => nomatch h) fun _ => ⟨_, pe_one (pe_cmpR op_ge (pv 0) pe_int (nomark _))⟩

/-! ### numbers of bounded length -/
def Md (i : Int) : Prop := i.natAbs < 2 ^ 3000
theorem Md.cm {i j : Int} (a : Md i) (b : Md j) : CMulW i j := wide_mul a b (by decide) (by decide) (by decide)
theorem Md.mul {i j : Int} (a : Md i) (b : Md j) : (i * j).natAbs < 2 ^ 6000 := by
  have h := wide_lt a b
  exact h
theorem sm6 {i : Int} (a : i.natAbs < 2 ^ 6000) : Sm i := Nat.lt_of_lt_of_le a (Nat.pow_le_pow_right (by decide) (by decide))
theorem sm_add {i j : Int} (a : i.natAbs < 2 ^ 6000) (b : j.natAbs < 2 ^ 6000) : Sm (i + j) := by
  have h : (i + j).natAbs ≤ i.natAbs + j.natAbs := Int.natAbs_add_le _ _
  have e : (2 : Nat) ^ (6000 + 1) = 2 ^ 6000 * 2 := Nat.pow_succ ..
  rw [show 6000 + 1 = 6001 from rfl] at e
  have h2 : (2 : Nat) ^ 6001 ≤ 2 ^ 8000 := Nat.pow_le_pow_right (by decide) (by decide)
  unfold Sm
  generalize (2 : Nat) ^ 6000 = x at *
  generalize (2 : Nat) ^ 6001 = y at *
  omega
theorem sm_sub {i j : Int} (a : i.natAbs < 2 ^ 6000) (b : j.natAbs < 2 ^ 6000) : Sm (i - j) := by
  rw [Int.sub_eq_add_neg]
  exact sm_add a (by rw [Int.natAbs_neg]; exact b)
theorem Md.sm {i : Int} (a : Md i) : Sm i := Nat.lt_of_lt_of_le a (Nat.pow_le_pow_right (by decide) (by decide))
theorem Md.neg {i : Int} (a : Md i) : Md (-i) := by unfold Md; rw [Int.natAbs_neg]; exact a
theorem Sm.neg {i : Int} (a : Sm i) : Sm (-i) := by unfold Sm; rw [Int.natAbs_neg]; exact a
theorem Sm.log {i : Int} (a : Sm i) : i.natAbs.log2 < 9000 := by
  by_cases h : i.natAbs = 0
  · rw [h]; decide
  · exact Nat.lt_of_lt_of_le ((Nat.log2_lt h).mpr a) (by decide)

/-! ### __init__ -/
theorem sci : FnScope ["self", "top", "bottom", "shared"] ["self", "top", "bottom"] (defScope (cm 0)) := ⟨rfl, rfl, rfl, by decide +kernel, rfl, by decide +kernel, by decide +kernel⟩
theorem mkS_ne {t b : Int} (h : b ≠ 0) : mkS t b ≠ 0 := by
  have g : Int.gcd t b ≠ 0 := fun e => h (Int.gcd_eq_zero_iff.mp e).2
  unfold mkS
  split <;> omega
theorem mkS_sm {t b : Int} (h : b ≠ 0) (sb : Sm b) : Sm (mkS t b) := by
  have g : Int.gcd t b ≤ b.natAbs := Nat.le_of_dvd (Int.natAbs_pos.mpr h) (Nat.gcd_dvd_right t.natAbs b.natAbs)
  have e : (mkS t b).natAbs = Int.gcd t b := by
    unfold mkS
    split <;> simp
  unfold Sm
  rw [e]
  exact Nat.lt_of_le_of_lt g sb
abbrev FunI (K : PySem.W.Frag) (f : Addr) (fd : FuncData) : Prop := FunD K "__init__" "Ratio.__init__" (defArgs (cm 0)) (defBody (cm 0)) (defScope (cm 0)) [.int 1] [] f fd
theorem ok_init (F : FunI K f fd) (T : Txt K mg C) (D1 : DInt P w K mg base C) : FnOk P w K mg base CX0 2 f fd ["self", "top", "bottom"] (spInit C) := by
  refine F.ok sci (fun vs H Q E h => ?_) (fun cdv A outer s H vs Q E hr h => ?_)
  · obtain ⟨p, dx, t, b, rfl, _⟩ := h
    rfl
  · obtain ⟨p, dx, t, b, rfl, hp, h0, st, sb, k⟩ := h
    suffices Wss (cxOf CX0 P w K mg base ["self", "top", "bottom", "shared"] "Ratio.__init__" (defScope (cm 0)) f cdv A outer s H E).nox (defBody (cm 0)) { nx := fun _ H' => Q .non H', rt := Q } (start ["self", "top", "bottom", "shared"] [.ref p, .int t, .int b]) H by
      obtain ⟨tt, pt, qt⟩ := this
      exact ⟨tt, pt.nox, qt⟩
    have hI : (Wx p (.ins C dx [])).I H := hp
    have ht : Is (Wx p (.ins C dx [])) H (.int t) (Vd.int t : Vd C) := rfl
    have hb : Is (Wx p (.ins C dx [])) H (.int b) (Vd.int b : Vd C) := rfl
    refine wss_ifF0 (tx_not (k := true) (tx_val ((dx_callE D1 hr (ax_cons (dx_var 1 ht) ax_nil) trivial).to rfl))) hI rfl fun H1 u1 i1 => ?_
    have hb1 : Is (Wx p (.ins C dx [])) H1 (.int b) (Vd.int b : Vd C) := rfl
    refine wss_ifF0 (Txw.tx (txw_or' (k := false) (tx_not (k := true) (tx_val ((dx_callE D1 hr (ax_cons (dx_var 2 hb1) ax_nil) trivial).to rfl))) (txw_or1 (tx_eq (x := b) (y := 0) (dx_var 2 rfl) dx_int)))) i1 (by simp [h0]) fun H2 u2 i2 => ?_
    refine wss_set 3 (dx_ifB (x := (Int.gcd t b : Int)) (y := -(Int.gcd t b : Int)) (tx_gt (dx_var (α := Int) (x := b) 2 rfl) dx_int) (dx_gcd (dx_var (α := Int) (x := t) 1 rfl) (dx_var (α := Int) (x := b) 2 rfl) T.gcd) (dx_neg (dx_gcd (dx_var (α := Int) (x := t) 1 rfl) (dx_var (α := Int) (x := b) 2 rfl) T.gcd))) i2 (fun v H3 x u3 i3 hx ex => ?_) sci.nd
    subst ex
    cases hx
    have em : (if decide (0 < b) = true then (Int.gcd t b : Int) else -(Int.gcd t b : Int)) = mkS t b := by
      unfold mkS
      by_cases h : 0 < b
      · rw [if_pos (decide_eq_true h), if_pos (show b > 0 from h)]
      · rw [if_neg (by rw [decide_eq_false h]; exact Bool.false_ne_true), if_neg (show ¬ b > 0 from h)]
    rw [em]
    have z := mkS_ne (t := t) h0
    have lg := Sm.log (mkS_sm (t := t) h0 sb)
    refine wss_fld T.O.cl T.nT (by decide) (dx_fdiv (i := t) (j := mkS t b) (dx_var 1 rfl) (dx_var 3 rfl) z lg) i3 rfl fun H4 u4 => ?_
    have i5 : (Wx p (.ins C dx (putF "_top" (.int (t.fdiv (mkS t b))) []))).I (upd H4 p (.ins C dx (putF "_top" (.int (t.fdiv (mkS t b))) []))) := upd_same
    refine wss_fld T.O.cl T.nB (by show 1 < 1000; decide) (dx_fdiv (i := b) (j := mkS t b) (dx_var 2 rfl) (dx_var 3 rfl) z lg) i5 rfl fun H6 u6 => wss_nil ?_
    refine k _ (fun q o hq e => ?_) upd_same
    rw [upd_ne hq]
    refine u6 q o hq ?_
    rw [upd_ne hq]
    exact u4 q o hq (u3 q o hq (u2 q o hq (u1 q o hq e)))
end
end K11

set_option Elab.async false
set_option linter.all false
set_option maxRecDepth 100000
set_option maxHeartbeats 4000000
set_option exponentiation.threshold 20000
namespace K11
open PySem L2 Inn
open Dat (Is)
section
variable {P : Program} {w : World} {K : PySem.W.Frag} {mg : Str → Option Value} {base : Heap} {f C : Addr} {fd : FuncData}
abbrev A1 (C : Addr) := Cns (Rt C) Nil
abbrev A2 (C : Addr) := Cns (Rt C) (Cns (Nm C) Nil)
abbrev tru {A : Type} : A → Prop := fun _ => True
/-! ### properties -/
theorem scS (i : Nat) (h : i = 1 ∨ i = 2 ∨ i = 3 ∨ i = 4 ∨ i = 11 ∨ i = 13 ∨ i = 17 ∨ i = 18) : FnScope ["self"] ["self"] (defScope (cm i)) := by
  rcases h with h | h | h | h | h | h | h | h <;> subst h <;> exact ⟨rfl, rfl, rfl, by decide +kernel, rfl, by decide +kernel, by decide +kernel⟩
theorem ok_top (F : Fun K "top" "Ratio.top" (cm 1) f fd) (T : Txt K mg C) : FnOk P w K mg base CX0 1 f fd ["self"] (SpE (tru (A := A1 C)) fun a => a.h.t) := by
  refine fn_body F (scS 1 (by decide)) rfl fun cdv A' outer s H E W vs ⟨x, ⟨⟩⟩ Q hr hargs hI hp k => ?_
  obtain ⟨v, _, rfl, hv, rfl⟩ := hargs
  exact wss_ret (dx_top T.O.cl T.nT (dx_var 0 hv)) hI fun u H1 y u1 i1 hy ey => k u H1 y u1 i1 hy ey
theorem ok_bottom (F : Fun K "bottom" "Ratio.bottom" (cm 2) f fd) (T : Txt K mg C) : FnOk P w K mg base CX0 1 f fd ["self"] (SpE (tru (A := A1 C)) fun a => a.h.b) := by
  refine fn_body F (scS 2 (by decide)) rfl fun cdv A' outer s H E W vs ⟨x, ⟨⟩⟩ Q hr hargs hI hp k => ?_
  obtain ⟨v, _, rfl, hv, rfl⟩ := hargs
  exact wss_ret (dx_bot T.O.cl T.nB (dx_var 0 hv)) hI fun u H1 y u1 i1 hy ey => k u H1 y u1 i1 hy ey
def sgn (t : Int) : Int := if t = 0 then 0 else if 0 < t then 1 else -1
theorem ok_sign (F : Fun K "sign" "Ratio.sign" (cm 3) f fd) (T : Txt K mg C) : FnOk P w K mg base CX0 1 f fd ["self"] (SpE (tru (A := A1 C)) fun a => sgn a.h.t) := by
  refine fn_body F (scS 3 (by decide)) rfl fun cdv A' outer s H E W vs ⟨x, ⟨⟩⟩ Q hr hargs hI hp k => ?_
  obtain ⟨v, _, rfl, hv, rfl⟩ := hargs
  refine wss_if2 (tx_eq (dx_top T.O.cl T.nT (dx_var 0 hv)) dx_int) hI (fun h H1 u1 i1 => ?_) (fun h H1 u1 i1 => ?_)
  · refine wss_ret dx_int i1 fun u H2 y u2 i2 hy ey => k u H2 y (u1.trans u2) i2 hy ?_
    rw [ey]
    exact (if_pos (of_decide_eq_true h)).symm
  · refine wss_nil ?_
    have hv1 := Dat.up u1 hv
    refine wss_ret (dx_ifB (tx_gt (dx_top T.O.cl T.nT (dx_var 0 hv1)) dx_int) dx_int (dx_neg dx_int)) i1 fun u H2 y u2 i2 hy ey => k u H2 y (u1.trans u2) i2 hy ?_
    rw [ey]
    show _ = sgn x.t
    unfold sgn
    rw [if_neg (of_decide_eq_false h)]
    by_cases c : 0 < x.t
    · rw [if_pos (decide_eq_true c), if_pos c]
    · rw [if_neg (by rw [decide_eq_false c]; exact Bool.false_ne_true), if_neg c]
theorem ok_is_whole (F : Fun K "is_whole" "Ratio.is_whole" (cm 4) f fd) (T : Txt K mg C) : FnOk P w K mg base CX0 1 f fd ["self"] (SpE (tru (A := A1 C)) fun a => decide (a.h.b = 1)) := by
  refine fn_body F (scS 4 (by decide)) rfl fun cdv A' outer s H E W vs ⟨x, ⟨⟩⟩ Q hr hargs hI hp k => ?_
  obtain ⟨v, _, rfl, hv, rfl⟩ := hargs
  exact wss_ret (dx_eq (dx_bot T.O.cl T.nB (dx_var 0 hv)) dx_int) hI fun u H1 y u1 i1 hy ey => k u H1 y u1 i1 hy ey

/-! ### is_number, need_number, pair_of -/
def isNumV (x : Vd C) : Bool := x.isRat || isIntV x
theorem sc10 : FnScope ["value"] ["value"] (defScope (top 10)) := ⟨rfl, rfl, rfl, by decide +kernel, rfl, by decide +kernel, by decide +kernel⟩
theorem ok_is_number (F : Fun K "is_number" "is_number" (top 10) f fd) (T : Txt K mg C) (D1 : DInt P w K mg base C) : FnOk P w K mg base CX0 2 f fd ["value"] (SpE (tru (A := Cns (Vd C) Nil)) fun a => isNumV a.h) := by
  refine fn_body F sc10 rfl fun cdv A' outer s H E W vs ⟨x, ⟨⟩⟩ Q hr hargs hI hp k => ?_
  obtain ⟨v, _, rfl, hv, rfl⟩ := hargs
  exact wss_ret (dx_or' (dx_isRat T.O (dx_var 0 hv) T.isi T.mgC) (dx_one ((dx_callE D1 hr (ax_cons (dx_var 0 hv) ax_nil) trivial).to (y := isIntV x) rfl))) hI fun u H1 y u1 i1 hy ey => k u H1 y u1 i1 hy ey
theorem num_vd (n : Nm C) : isNumV n.vd = true := by cases n <;> rfl
abbrev DNum (P : Program) (w : World) (K : PySem.W.Frag) (mg : Str → Option Value) (base : Heap) (C : Addr) : Prop := Def P w K mg base 2 "is_number" ["value"] (SpE (tru (A := Cns (Vd C) Nil)) fun a => isNumV a.h)
theorem sc11 : FnScope ["value"] ["value"] (defScope (top 11)) := ⟨rfl, rfl, rfl, by decide +kernel, rfl, by decide +kernel, by decide +kernel⟩
theorem ok_need_number (F : Fun K "need_number" "need_number" (top 11) f fd) (T : Txt K mg C) (D2 : DNum P w K mg base C) : FnOk P w K mg base CX0 3 f fd ["value"] (SpE (tru (A := Cns (Nm C) Nil)) fun _ => ()) := by
  refine fn_body F sc11 rfl fun cdv A' outer s H E W vs ⟨x, ⟨⟩⟩ Q hr hargs hI hp k => ?_
  obtain ⟨v, _, rfl, hv, rfl⟩ := hargs
  refine wss_ifF0 (tx_not (k := true) (tx_val ((dx_callE D2 hr (ax_cons (dx_vdN (dx_var 0 hv)) ax_nil) trivial).to (num_vd x)))) hI rfl fun H1 u1 i1 => wss_nil (k .non H1 () u1 i1 rfl rfl)
abbrev DNeed (P : Program) (w : World) (K : PySem.W.Frag) (mg : Str → Option Value) (base : Heap) (C : Addr) : Prop := Def P w K mg base 3 "need_number" ["value"] (SpE (tru (A := Cns (Nm C) Nil)) fun _ => ())
theorem sc12 : FnScope ["number"] ["number"] (defScope (top 12)) := ⟨rfl, rfl, rfl, by decide +kernel, rfl, by decide +kernel, by decide +kernel⟩
theorem ok_pair_of (F : Fun K "pair_of" "pair_of" (top 12) f fd) (T : Txt K mg C) (D3 : DNeed P w K mg base C) : FnOk P w K mg base CX0 4 f fd ["number"] (SpE (tru (A := Cns (Nm C) Nil)) fun a => (a.h.t, a.h.b)) := by
  refine fn_body F sc12 rfl fun cdv A' outer s H E W vs ⟨x, ⟨⟩⟩ Q hr hargs hI hp k => ?_
  obtain ⟨v, _, rfl, hv, rfl⟩ := hargs
  cases x with
  | r x =>
    refine wss_ifT (tx_val ((dx_isRat T.O (dx_vdN (dx_var 0 hv)) T.isi T.mgC).to (y := true) rfl)) hI rfl fun H1 u1 i1 => ?_
    have hv1 : Is W H1 v x := Dat.up (α := Rt C) u1 hv
    exact wss_ret (dx_tup (dx_top T.O.cl T.nT (dx_var 0 hv1)) (dx_bot T.O.cl T.nB (dx_var 0 hv1))) i1 fun u H2 y u2 i2 hy ey => k u H2 y (u1.trans u2) i2 hy ey
  | i n =>
    refine wss_ifF0 (tx_val ((dx_isRat T.O (dx_vdN (dx_var 0 hv)) T.isi T.mgC).to (y := false) rfl)) hI rfl fun H1 u1 i1 => ?_
    have hv1 := Dat.up u1 hv
    refine wss_expr (dx_callE D3 hr (ax_cons (dx_var 0 hv1) ax_nil) trivial) i1 fun _ H2 _ u2 i2 _ _ => ?_
    exact wss_ret (dx_tup (dx_var (α := Int) (x := n) 0 hv) dx_int) i2 fun u H3 y u3 i3 hy ey => k u H3 y ((u1.trans u2).trans u3) i3 hy ey
abbrev DPair (P : Program) (w : World) (K : PySem.W.Frag) (mg : Str → Option Value) (base : Heap) (C : Addr) : Prop := Def P w K mg base 4 "pair_of" ["number"] (SpE (tru (A := Cns (Nm C) Nil)) fun a => (a.h.t, a.h.b))
abbrev DRat (P : Program) (w : World) (K : PySem.W.Frag) (mg : Str → Option Value) (base : Heap) (C : Addr) : Prop := CDef P w K mg base 2 C "Ratio"

/-! ### operators -/
def Rk (r : Rt C) : Prop := Md r.t ∧ Md r.b ∧ r.b ≠ 0
def Nk (n : Nm C) : Prop := Md n.t ∧ Md n.b ∧ n.b ≠ 0
def ok2 : A2 C → Prop := fun a => Rk a.h ∧ Nk a.t.h
def gAdd (r : Rt C) (n : Nm C) : Rt C := mk C (r.t * n.b + n.t * r.b) (r.b * n.b)
def gSub (r : Rt C) (n : Nm C) : Rt C := mk C (r.t * n.b - n.t * r.b) (r.b * n.b)
def gMul (r : Rt C) (n : Nm C) : Rt C := mk C (r.t * n.t) (r.b * n.b)
def gOver (r : Rt C) (n : Nm C) : Rt C := mk C (r.t * n.b) (r.b * n.t)
theorem sc4 (i : Nat) (h : i = 5 ∨ i = 7 ∨ i = 9 ∨ i = 12 ∨ i = 14 ∨ i = 15) : FnScope ["self", "other", "top", "bottom"] ["self", "other"] (defScope (cm i)) := by
  rcases h with h | h | h | h | h | h <;> subst h <;> exact ⟨rfl, rfl, rfl, by decide +kernel, rfl, by decide +kernel, by decide +kernel⟩
theorem ok_add (F : Fun K "__add__" "Ratio.__add__" (cm 5) f fd) (T : Txt K mg C) (D4 : DPair P w K mg base C) (DR : DRat P w K mg base C) : FnOk P w K mg base CX0 5 f fd ["self", "other"] (SpE (ok2 (C := C)) fun a => gAdd a.h a.t.h) := by
  refine fn_body F (sc4 5 (by decide)) rfl fun cdv A' outer s H E W vs ⟨r, n, ⟨⟩⟩ Q hr hargs hI hp k => ?_
  obtain ⟨v, _, rfl, hv, v2, _, rfl, hv2, rfl⟩ := hargs
  obtain ⟨⟨rt, rb, r0⟩, nt, nb, n0⟩ := hp
  refine wss_unp 2 3 (dx_callE D4 hr (ax_cons (dx_var 1 hv2) ax_nil) trivial) hI (sc4 5 (by decide)).nd rfl fun vt vb H1 t b e u1 i1 ht hb => ?_
  cases e
  have hv1 := Dat.up u1 hv
  exact wss_ret (dx_make DR (hr.mono (by decide)) (dx_add (dx_mul (dx_top T.O.cl T.nT (dx_var 0 hv1)) (dx_var 3 hb) (rt.cm nb)) (dx_mul (dx_var 2 ht) (dx_bot T.O.cl T.nB (dx_var 0 hv1)) (nt.cm rb))) (dx_mul (dx_bot T.O.cl T.nB (dx_var 0 hv1)) (dx_var 3 hb) (rb.cm nb))
    (Int.mul_ne_zero r0 n0) (sm_add (rt.mul nb) (nt.mul rb)) (sm6 (rb.mul nb))) i1 fun u H2 y u2 i2 hy ey => k u H2 y (u1.trans u2) i2 hy ey
theorem ok_sub (F : Fun K "__sub__" "Ratio.__sub__" (cm 7) f fd) (T : Txt K mg C) (D4 : DPair P w K mg base C) (DR : DRat P w K mg base C) : FnOk P w K mg base CX0 5 f fd ["self", "other"] (SpE (ok2 (C := C)) fun a => gSub a.h a.t.h) := by
  refine fn_body F (sc4 7 (by decide)) rfl fun cdv A' outer s H E W vs ⟨r, n, ⟨⟩⟩ Q hr hargs hI hp k => ?_
  obtain ⟨v, _, rfl, hv, v2, _, rfl, hv2, rfl⟩ := hargs
  obtain ⟨⟨rt, rb, r0⟩, nt, nb, n0⟩ := hp
  refine wss_unp 2 3 (dx_callE D4 hr (ax_cons (dx_var 1 hv2) ax_nil) trivial) hI (sc4 7 (by decide)).nd rfl fun vt vb H1 t b e u1 i1 ht hb => ?_
  cases e
  have hv1 := Dat.up u1 hv
  exact wss_ret (dx_make DR (hr.mono (by decide)) (dx_sub (dx_mul (dx_top T.O.cl T.nT (dx_var 0 hv1)) (dx_var 3 hb) (rt.cm nb)) (dx_mul (dx_var 2 ht) (dx_bot T.O.cl T.nB (dx_var 0 hv1)) (nt.cm rb))) (dx_mul (dx_bot T.O.cl T.nB (dx_var 0 hv1)) (dx_var 3 hb) (rb.cm nb))
    (Int.mul_ne_zero r0 n0) (sm_sub (rt.mul nb) (nt.mul rb)) (sm6 (rb.mul nb))) i1 fun u H2 y u2 i2 hy ey => k u H2 y (u1.trans u2) i2 hy ey
theorem ok_mul (F : Fun K "__mul__" "Ratio.__mul__" (cm 9) f fd) (T : Txt K mg C) (D4 : DPair P w K mg base C) (DR : DRat P w K mg base C) : FnOk P w K mg base CX0 5 f fd ["self", "other"] (SpE (ok2 (C := C)) fun a => gMul a.h a.t.h) := by
  refine fn_body F (sc4 9 (by decide)) rfl fun cdv A' outer s H E W vs ⟨r, n, ⟨⟩⟩ Q hr hargs hI hp k => ?_
  obtain ⟨v, _, rfl, hv, v2, _, rfl, hv2, rfl⟩ := hargs
  obtain ⟨⟨rt, rb, r0⟩, nt, nb, n0⟩ := hp
  refine wss_unp 2 3 (dx_callE D4 hr (ax_cons (dx_var 1 hv2) ax_nil) trivial) hI (sc4 9 (by decide)).nd rfl fun vt vb H1 t b e u1 i1 ht hb => ?_
  cases e
  have hv1 := Dat.up u1 hv
  exact wss_ret (dx_make DR (hr.mono (by decide)) (dx_mul (dx_top T.O.cl T.nT (dx_var 0 hv1)) (dx_var 2 ht) (rt.cm nt)) (dx_mul (dx_bot T.O.cl T.nB (dx_var 0 hv1)) (dx_var 3 hb) (rb.cm nb))
    (Int.mul_ne_zero r0 n0) (sm6 (rt.mul nt)) (sm6 (rb.mul nb))) i1 fun u H2 y u2 i2 hy ey => k u H2 y (u1.trans u2) i2 hy ey
def okOver : A2 C → Prop := fun a => Rk a.h ∧ Nk a.t.h ∧ a.t.h.t ≠ 0
theorem ok_over (F : Fun K "over" "Ratio.over" (cm 12) f fd) (T : Txt K mg C) (D4 : DPair P w K mg base C) (DR : DRat P w K mg base C) : FnOk P w K mg base CX0 5 f fd ["self", "other"] (SpE (okOver (C := C)) fun a => gOver a.h a.t.h) := by
  refine fn_body F (sc4 12 (by decide)) rfl fun cdv A' outer s H E W vs ⟨r, n, ⟨⟩⟩ Q hr hargs hI hp k => ?_
  obtain ⟨v, _, rfl, hv, v2, _, rfl, hv2, rfl⟩ := hargs
  obtain ⟨⟨rt, rb, r0⟩, ⟨nt, nb, n0⟩, t0⟩ := hp
  refine wss_unp 2 3 (dx_callE D4 hr (ax_cons (dx_var 1 hv2) ax_nil) trivial) hI (sc4 12 (by decide)).nd rfl fun vt vb H1 t b e u1 i1 ht hb => ?_
  cases e
  refine wss_ifF0 (tx_eq (dx_var 2 ht) dx_int) i1 (decide_eq_false t0) fun H2 u2 i2 => ?_
  have hv1 := Dat.up (u1.trans u2) hv
  exact wss_ret (dx_make DR (hr.mono (by decide)) (dx_mul (dx_top T.O.cl T.nT (dx_var 0 hv1)) (dx_var 3 hb) (rt.cm nb)) (dx_mul (dx_bot T.O.cl T.nB (dx_var 0 hv1)) (dx_var 2 ht) (rb.cm nt))
    (Int.mul_ne_zero r0 t0) (sm6 (rt.mul nb)) (sm6 (rb.mul nt))) i2 fun u H3 y u3 i3 hy ey => k u H3 y ((u1.trans u2).trans u3) i3 hy ey
theorem ok_is_below (F : Fun K "is_below" "Ratio.is_below" (cm 14) f fd) (T : Txt K mg C) (D4 : DPair P w K mg base C) : FnOk P w K mg base CX0 5 f fd ["self", "other"] (SpE (ok2 (C := C)) fun a => decide (a.h.t * a.t.h.b < a.t.h.t * a.h.b)) := by
  refine fn_body F (sc4 14 (by decide)) rfl fun cdv A' outer s H E W vs ⟨r, n, ⟨⟩⟩ Q hr hargs hI hp k => ?_
  obtain ⟨v, _, rfl, hv, v2, _, rfl, hv2, rfl⟩ := hargs
  obtain ⟨⟨rt, rb, r0⟩, nt, nb, n0⟩ := hp
  refine wss_unp 2 3 (dx_callE D4 hr (ax_cons (dx_var 1 hv2) ax_nil) trivial) hI (sc4 14 (by decide)).nd rfl fun vt vb H1 t b e u1 i1 ht hb => ?_
  cases e
  have hv1 := Dat.up u1 hv
  exact wss_ret (dx_lt (dx_mul (dx_top T.O.cl T.nT (dx_var 0 hv1)) (dx_var 3 hb) (rt.cm nb)) (dx_mul (dx_var 2 ht) (dx_bot T.O.cl T.nB (dx_var 0 hv1)) (nt.cm rb))) i1 fun u H2 y u2 i2 hy ey => k u H2 y (u1.trans u2) i2 hy ey
theorem ok_is_at_most (F : Fun K "is_at_most" "Ratio.is_at_most" (cm 15) f fd) (T : Txt K mg C) (D4 : DPair P w K mg base C) : FnOk P w K mg base CX0 5 f fd ["self", "other"] (SpE (ok2 (C := C)) fun a => decide (a.h.t * a.t.h.b ≤ a.t.h.t * a.h.b)) := by
  refine fn_body F (sc4 15 (by decide)) rfl fun cdv A' outer s H E W vs ⟨r, n, ⟨⟩⟩ Q hr hargs hI hp k => ?_
  obtain ⟨v, _, rfl, hv, v2, _, rfl, hv2, rfl⟩ := hargs
  obtain ⟨⟨rt, rb, r0⟩, nt, nb, n0⟩ := hp
  refine wss_unp 2 3 (dx_callE D4 hr (ax_cons (dx_var 1 hv2) ax_nil) trivial) hI (sc4 15 (by decide)).nd rfl fun vt vb H1 t b e u1 i1 ht hb => ?_
  cases e
  have hv1 := Dat.up u1 hv
  exact wss_ret (dx_le (dx_mul (dx_top T.O.cl T.nT (dx_var 0 hv1)) (dx_var 3 hb) (rt.cm nb)) (dx_mul (dx_var 2 ht) (dx_bot T.O.cl T.nB (dx_var 0 hv1)) (nt.cm rb))) i1 fun u H2 y u2 i2 hy ey => k u H2 y (u1.trans u2) i2 hy ey
def okSm : A1 C → Prop := fun a => Sm a.h.t ∧ Sm a.h.b ∧ a.h.b ≠ 0
def gNeg (r : Rt C) : Rt C := mk C (-r.t) r.b
theorem ok_neg (F : Fun K "__neg__" "Ratio.__neg__" (cm 11) f fd) (T : Txt K mg C) (DR : DRat P w K mg base C) : FnOk P w K mg base CX0 4 f fd ["self"] (SpE (okSm (C := C)) fun a => gNeg a.h) := by
  refine fn_body F (scS 11 (by decide)) rfl fun cdv A' outer s H E W vs ⟨r, ⟨⟩⟩ Q hr hargs hI hp k => ?_
  obtain ⟨v, _, rfl, hv, rfl⟩ := hargs
  obtain ⟨rt, rb, r0⟩ := hp
  exact wss_ret (dx_make DR hr (dx_neg (dx_top T.O.cl T.nT (dx_var 0 hv))) (dx_bot T.O.cl T.nB (dx_var 0 hv)) r0 (Sm.neg rt) rb) hI fun u H2 y u2 i2 hy ey => k u H2 y u2 i2 hy ey
def gSize (r : Rt C) : Rt C := mk C (if r.t < 0 then -r.t else r.t) r.b
theorem ok_size (F : Fun K "size" "Ratio.size" (cm 13) f fd) (T : Txt K mg C) (DR : DRat P w K mg base C) : FnOk P w K mg base CX0 4 f fd ["self"] (SpE (okSm (C := C)) fun a => gSize a.h) := by
  refine fn_body F (scS 13 (by decide)) rfl fun cdv A' outer s H E W vs ⟨r, ⟨⟩⟩ Q hr hargs hI hp k => ?_
  obtain ⟨v, _, rfl, hv, rfl⟩ := hargs
  obtain ⟨rt, rb, r0⟩ := hp
  have st : Sm (if r.t < 0 then -r.t else r.t) := by
    split
    · exact Sm.neg rt
    · exact rt
  exact wss_ret (dx_make DR hr (dx_abs (dx_top T.O.cl T.nT (dx_var 0 hv)) T.abs) (dx_bot T.O.cl T.nB (dx_var 0 hv)) r0 st rb) hI fun u H2 y u2 i2 hy ey => k u H2 y u2 i2 hy ey

/-! ### the reflected ones -/
abbrev A3 (C : Addr) := Cns (Rt C) (Cns Int Nil)
def ok3 : A3 C → Prop := fun a => Rk a.h ∧ Md a.t.h
theorem md_one : Md 1 := Nat.lt_of_lt_of_le (show (1 : Int).natAbs < 2 ^ 1 by decide) (Nat.pow_le_pow_right (by decide) (by decide))
theorem ok3.to2 {a : A3 C} (h : ok3 a) : ok2 (⟨a.h, ⟨.i a.t.h, ⟨⟩⟩⟩ : A2 C) := ⟨h.1, h.2, md_one, by show (1 : Int) ≠ 0; decide⟩
theorem sc2s (i : Nat) (h : i = 6 ∨ i = 8 ∨ i = 10 ∨ i = 16) : FnScope ["self", "other"] ["self", "other"] (defScope (cm i)) := by
  rcases h with h | h | h | h <;> subst h <;> exact ⟨rfl, rfl, rfl, by decide +kernel, rfl, by decide +kernel, by decide +kernel⟩
theorem ok_radd (F : Fun K "__radd__" "Ratio.__radd__" (cm 6) f fd) (T : Txt K mg C) (B : ODef P w K mg base 5 C .Add gAdd ok2) : FnOk P w K mg base CX0 6 f fd ["self", "other"] (SpE (ok3 (C := C)) fun a => gAdd a.h (.i a.t.h)) := by
  refine fn_body F (sc2s 6 (by decide)) rfl fun cdv A' outer s H E W vs ⟨r, n, ⟨⟩⟩ Q hr hargs hI hp k => ?_
  obtain ⟨v, _, rfl, hv, v2, _, rfl, hv2, rfl⟩ := hargs
  exact wss_ret (dx_ownop B hr (dx_var 0 hv) (dx_nmI (dx_var 1 hv2)) hp.to2) hI fun u H2 y u2 i2 hy ey => k u H2 y u2 i2 hy ey
theorem ok_rmul (F : Fun K "__rmul__" "Ratio.__rmul__" (cm 10) f fd) (T : Txt K mg C) (B : ODef P w K mg base 5 C .Mult gMul ok2) : FnOk P w K mg base CX0 6 f fd ["self", "other"] (SpE (ok3 (C := C)) fun a => gMul a.h (.i a.t.h)) := by
  refine fn_body F (sc2s 10 (by decide)) rfl fun cdv A' outer s H E W vs ⟨r, n, ⟨⟩⟩ Q hr hargs hI hp k => ?_
  obtain ⟨v, _, rfl, hv, v2, _, rfl, hv2, rfl⟩ := hargs
  exact wss_ret (dx_ownop B hr (dx_var 0 hv) (dx_nmI (dx_var 1 hv2)) hp.to2) hI fun u H2 y u2 i2 hy ey => k u H2 y u2 i2 hy ey
end
end K11

set_option Elab.async false
set_option linter.all false
set_option maxRecDepth 100000
set_option maxHeartbeats 4000000
set_option exponentiation.threshold 20000
namespace K11
open PySem L2 Inn
variable {C : Addr}
/-- lowest terms -/
def Red (r : Rt C) : Prop := 0 < r.b ∧ Int.gcd r.t r.b = 1
theorem rt_ext {r q : Rt C} (h : r.t = q.t) (k : r.b = q.b) : r = q := by
  cases r; cases q
  cases h; cases k
  rfl
theorem cop_dvd {a b c : Int} (h : Int.gcd b a = 1) (d : a ∣ b * c) : a ∣ c := by
  rw [← Int.natAbs_dvd_natAbs] at d ⊢
  rw [Int.natAbs_mul] at d
  exact Nat.Coprime.dvd_of_dvd_mul_left (Nat.Coprime.symm h) d
theorem red_uniq {r q : Rt C} (hr : Red r) (hq : Red q) (h : r.t * q.b = q.t * r.b) : r = q := by
  obtain ⟨r0, r1⟩ := hr
  obtain ⟨q0, q1⟩ := hq
  have d1 : r.b ∣ q.b := by
    have d : r.b ∣ r.t * q.b := by rw [h]; exact Int.dvd_mul_left _ _
    exact cop_dvd r1 d
  have d2 : q.b ∣ r.b := by
    have d : q.b ∣ q.t * r.b := by rw [← h]; exact Int.dvd_mul_left _ _
    exact cop_dvd q1 d
  have e : r.b = q.b := Int.le_antisymm (Int.le_of_dvd q0 d1) (Int.le_of_dvd r0 d2)
  refine rt_ext ?_ e
  rw [e] at h
  exact Int.eq_of_mul_eq_mul_right (Int.ne_of_gt q0) h
theorem mkS_abs (t b : Int) : (mkS t b).natAbs = Int.gcd t b := by
  unfold mkS
  split <;> simp
theorem mkS_dt (t b : Int) : mkS t b ∣ t := by
  unfold mkS
  split
  · exact Int.gcd_dvd_left ..
  · exact Int.neg_dvd.mpr (Int.gcd_dvd_left ..)
theorem mkS_db (t b : Int) : mkS t b ∣ b := by
  unfold mkS
  split
  · exact Int.gcd_dvd_right ..
  · exact Int.neg_dvd.mpr (Int.gcd_dvd_right ..)
theorem mk_t (t b : Int) : mkS t b * (mk C t b).t = t := by
  show mkS t b * t.fdiv (mkS t b) = t
  rw [Int.fdiv_eq_ediv_of_dvd (mkS_dt t b)]
  exact Int.mul_ediv_cancel' (mkS_dt t b)
theorem mk_b (t b : Int) : mkS t b * (mk C t b).b = b := by
  show mkS t b * b.fdiv (mkS t b) = b
  rw [Int.fdiv_eq_ediv_of_dvd (mkS_db t b)]
  exact Int.mul_ediv_cancel' (mkS_db t b)
theorem mk_red {t b : Int} (h : b ≠ 0) : Red (mk C t b) := by
  have ht := mk_t (C := C) t b
  have hb := mk_b (C := C) t b
  have ha := mkS_abs t b
  have h0 := mkS_ne (t := t) h
  refine ⟨?_, ?_⟩
  · have sg : (0 < b → 0 < mkS t b) ∧ (b < 0 → mkS t b < 0) := by
      have g : Int.gcd t b ≠ 0 := fun e => h (Int.gcd_eq_zero_iff.mp e).2
      unfold mkS
      constructor <;> intro q <;> split <;> omega
    rcases Int.lt_or_gt_of_ne h with q | q
    · refine Int.not_le.mp fun z => ?_
      have := Int.mul_nonneg_of_nonpos_of_nonpos (Int.le_of_lt (sg.2 q)) z
      omega
    · refine Int.not_le.mp fun z => ?_
      have := Int.mul_nonpos_of_nonneg_of_nonpos (Int.le_of_lt (sg.1 q)) z
      omega
  · have e : Int.gcd (mkS t b * (mk C t b).t) (mkS t b * (mk C t b).b) = (mkS t b).natAbs * Int.gcd (mk C t b).t (mk C t b).b := Int.gcd_mul_left ..
    rw [ht, hb, ha] at e
    have g : 0 < Int.gcd t b := Nat.pos_of_ne_zero fun z => h (Int.gcd_eq_zero_iff.mp z).2
    exact Nat.eq_of_mul_eq_mul_left g (by rw [← e, Nat.mul_one])
theorem mk_x {t b : Int} (h : b ≠ 0) : (mk C t b).t * b = t * (mk C t b).b := by
  have ht := mk_t (C := C) t b
  have hb := mk_b (C := C) t b
  generalize (mk C t b).t = T at *
  generalize (mk C t b).b = B at *
  generalize mkS t b = s at *
  rw [← ht, ← hb]
  simp only [Int.mul_comm, Int.mul_left_comm, Int.mul_assoc]
theorem mk_eq {r : Rt C} {t b : Int} (hr : Red r) (h : b ≠ 0) (x : r.t * b = t * r.b) : mk C t b = r := by
  refine red_uniq (mk_red h) hr ?_
  have y := mk_x (C := C) (t := t) h
  refine Int.eq_of_mul_eq_mul_right h ?_
  generalize (mk C t b).t = T at *
  generalize (mk C t b).b = B at *
  calc T * r.b * b = (T * b) * r.b := by simp only [Int.mul_comm, Int.mul_left_comm, Int.mul_assoc]
    _ = (t * r.b) * B := by rw [y]; simp only [Int.mul_comm, Int.mul_left_comm, Int.mul_assoc]
    _ = r.t * B * b := by rw [← x]; simp only [Int.mul_comm, Int.mul_left_comm, Int.mul_assoc]
theorem mk_self {r : Rt C} (hr : Red r) : mk C r.t r.b = r := mk_eq hr (Int.ne_of_gt hr.1) rfl
theorem Red.neg {r : Rt C} (hr : Red r) : Red (⟨-r.t, r.b⟩ : Rt C) := ⟨hr.1, by show Int.gcd (-r.t) r.b = 1; rw [Int.neg_gcd]; exact hr.2⟩
theorem mk_neg {r : Rt C} (hr : Red r) : gNeg r = ⟨-r.t, r.b⟩ := mk_self hr.neg
theorem mk_negmk {t b : Int} (h : b ≠ 0) : gNeg (mk C t b) = mk C (-t) b := by
  rw [mk_neg (mk_red h)]
  refine (mk_eq (mk_red h).neg h ?_).symm
  show -(mk C t b).t * b = -t * (mk C t b).b
  rw [Int.neg_mul, Int.neg_mul, mk_x h]
theorem fd_le {s t : Int} (h : s ∣ t) : (t.fdiv s).natAbs ≤ t.natAbs := by
  rw [Int.fdiv_eq_ediv_of_dvd h]
  exact Int.natAbs_ediv_le_natAbs ..
theorem mk_tle (t b : Int) : (mk C t b).t.natAbs ≤ t.natAbs := fd_le (mkS_dt t b)
theorem mk_ble (t b : Int) : (mk C t b).b.natAbs ≤ b.natAbs := fd_le (mkS_db t b)
end K11

set_option Elab.async false
set_option linter.all false
set_option maxRecDepth 100000
set_option maxHeartbeats 4000000
set_option exponentiation.threshold 20000
namespace K11
open PySem L2 Inn
open Dat (Is)
section
variable {P : Program} {w : World} {K : PySem.W.Frag} {mg : Str → Option Value} {base : Heap} {f C : Addr} {fd : FuncData}
/-- -, as the module has it -/
structure NDef (P : Program) (w : World) (K : PySem.W.Frag) (mg : Str → Option Value) (base : Heap) (C : Addr) : Prop where
  ex : ∃ f fd, PySem.W.findIn K (.ref C) "__neg__" = some (some (.ref f)) ∧ PySem.W.isFn K (.ref f) = true ∧ FnOk P w K mg base CX0 4 f fd ["self"] (SpE (okSm (C := C)) fun a => gNeg a.h) ∧ Binds K fd ["self"] []
theorem dx_negR {X : Cx} {W : Wld} {σ : L2.St} {H : Hp} {pos : Pos} {a : Expr} {r : Rt C} (B : NDef X.prog X.w X.K X.mg X.base C) (hr : Room 4 X.A) (ha : Dx X W a σ H (· = r)) (hp : okSm (C := C) ⟨r, ⟨⟩⟩) : Dx X W (.UnaryOp .USub a pos) σ H (· = gNeg r) :=
  let ⟨_, _, h1, h2, F, hb⟩ := B.ex
  dx_ownneg h1 h2 F hb hr ha hp
def gRsub (r : Rt C) (j : Int) : Rt C := gNeg (gSub r (.i j))
theorem ok_rsub (F : Fun K "__rsub__" "Ratio.__rsub__" (cm 8) f fd) (T : Txt K mg C) (B : ODef P w K mg base 5 C .Sub gSub ok2) (N : NDef P w K mg base C) : FnOk P w K mg base CX0 6 f fd ["self", "other"] (SpE (ok3 (C := C)) fun a => gRsub a.h a.t.h) := by
  refine fn_body F (sc2s 8 (by decide)) rfl fun cdv A' outer s H E W vs ⟨r, n, ⟨⟩⟩ Q hr hargs hI hp k => ?_
  obtain ⟨v, _, rfl, hv, v2, _, rfl, hv2, rfl⟩ := hargs
  obtain ⟨⟨rt, rb, r0⟩, nt, nb, n0⟩ := hp.to2
  refine wss_ret (dx_negR N (hr.mono (by decide)) (dx_ownop B hr (dx_var 0 hv) (dx_nmI (dx_var 1 hv2)) hp.to2) ⟨?_, ?_, ?_⟩) hI fun u H2 y u2 i2 hy ey => k u H2 y u2 i2 hy ey
  · exact Nat.lt_of_le_of_lt (mk_tle _ _) (sm_sub (rt.mul nb) (nt.mul rb))
  · exact Nat.lt_of_le_of_lt (mk_ble _ _) (sm6 (rb.mul nb))
  · exact Int.ne_of_gt (mk_red (C := C) (Int.mul_ne_zero r0 n0)).1
theorem ok_eq (F : Fun K "__eq__" "Ratio.__eq__" (cm 16) f fd) (T : Txt K mg C) : FnOk P w K mg base CX0 1 f fd ["self", "other"] (SpF (fun _ : Cns (Rt C) (Cns (Vd C) Nil) => True) fun a y => y = eqRV a.h a.t.h) := by
  refine fn_body F (sc2s 16 (by decide)) rfl fun cdv A' outer s H E W vs ⟨r, x, ⟨⟩⟩ Q hr hargs hI hp k => ?_
  obtain ⟨v, _, rfl, hv, v2, _, rfl, hv2, rfl⟩ := hargs
  refine wss_ret (P := fun y => y = eqRV r x) ?_ hI fun u H1 y u1 i1 hy ey => k u H1 y u1 i1 hy ey
  cases x with
  | rat y =>
    have hy : Is W H v2 y := hv2
    exact dx_and' (k := true) (l := decide (r.t = y.t) && decide (r.b = y.b)) ((dx_isRat T.O (dx_var 1 hv2) T.isi T.mgC).to rfl)
      (dx_and' (dx_eq (dx_top T.O.cl T.nT (dx_var 0 hv)) (dx_top T.O.cl T.nT (dx_var 1 hy))) (dx_one (dx_eq (dx_bot T.O.cl T.nB (dx_var 0 hv)) (dx_bot T.O.cl T.nB (dx_var 1 hy)))))
  | _ => exact dx_and (k := false) (l := true) ((dx_isRat T.O (dx_var 1 hv2) T.isi T.mgC).to rfl) (fun h => nomatch h) fun _ => ⟨_, pe_and (pe_cmpR op_eq (pe_fld (pv 0) rfl) (pe_fld (pv 1) rfl) (nomark _)) (pe_one (pe_cmpR op_eq (pe_fld (pv 0) rfl) (pe_fld (pv 1) rfl) (nomark _)))⟩
/-! ### texts -/
def iS (i : Int) : Str := Str.ofString (toString i)
def Tx9 (r : Rt C) : Prop := r.t.natAbs.log2 < 1920 ∧ r.b.natAbs.log2 < 1920
theorem iS_len {i : Int} (h : i.natAbs.log2 < 1920) : (iS i).length ≤ 1921 := by
  unfold iS
  rw [ofString_length]
  exact int_text_length_le (by decide) h
def strR (r : Rt C) : Str := if r.b = 1 then iS r.t else ([iS r.t, Str.ofString "/", iS r.b] : List Str).foldl (· ++ ·) Str.empty
theorem ok_str (F : Fun K "__str__" "Ratio.__str__" (cm 17) f fd) (T : Txt K mg C) : FnOk P w K mg base CX0 1 f fd ["self"] (SpF (fun a : Cns (Rt C) Nil => Tx9 a.h) fun a y => y = strR a.h) := by
  refine fn_body F (scS 17 (by decide)) rfl fun cdv A' outer s H E W vs ⟨r, ⟨⟩⟩ Q hr hargs hI hp k => ?_
  obtain ⟨v, _, rfl, hv, rfl⟩ := hargs
  have l1 := iS_len hp.1
  have l2 := iS_len hp.2
  refine wss_if2 (tx_eq (dx_bot T.O.cl T.nB (dx_var 0 hv)) dx_int) hI (fun h H1 u1 i1 => ?_) (fun h H1 u1 i1 => wss_nil ?_)
  · have hv1 := Dat.up u1 hv
    refine wss_ret (dx_strI (dx_top T.O.cl T.nT (dx_var 0 hv1)) hp.1 T.str) i1 fun u H2 y u2 i2 hy ey => k u H2 y (u1.trans u2) i2 hy ?_
    rw [ey]
    exact (if_pos (of_decide_eq_true h)).symm
  · have hv1 := Dat.up u1 hv
    have hv2 : ∀ {H2}, Up W H1 H2 → Is W H2 v r := fun u => Dat.up u hv1
    refine wss_ret (dx_joined (jx_cons (dx_fmtI (dx_top T.O.cl T.nT (dx_var 0 hv1)) hp.1) (jx_cons dx_str (jx_cons (dx_fmtI (dx_bot T.O.cl T.nB (dx_var 0 hv1)) hp.2) jx_nil))) ?_) i1 fun u H2 y u2 i2 hy ey => k u H2 y (u1.trans u2) i2 hy ?_
    · show (iS r.t).length + (_ + ((iS r.b).length + 0)) ≤ sizeLine
      have e : (Str.ofString "/").length = 1 := rfl
      have e2 : sizeLine = 16777216 := rfl
      rw [e2]
      have e3 : (Str.ofString "/" : Str).length ≤ 1 := Nat.le_of_eq e
      refine Nat.le_trans (Nat.add_le_add l1 (Nat.add_le_add e3 (Nat.add_le_add l2 (Nat.le_refl 0)))) (by decide)
    · rw [ey]
      exact (if_neg (of_decide_eq_false h)).symm
def reprR (r : Rt C) : Str := ([Str.ofString "Ratio(", iS r.t, Str.ofString ", ", iS r.b, Str.ofString ")"] : List Str).foldl (· ++ ·) Str.empty
theorem ok_repr (F : Fun K "__repr__" "Ratio.__repr__" (cm 18) f fd) (T : Txt K mg C) : FnOk P w K mg base CX0 1 f fd ["self"] (SpF (fun a : Cns (Rt C) Nil => Tx9 a.h) fun a y => y = reprR a.h) := by
  refine fn_body F (scS 18 (by decide)) rfl fun cdv A' outer s H E W vs ⟨r, ⟨⟩⟩ Q hr hargs hI hp k => ?_
  obtain ⟨v, _, rfl, hv, rfl⟩ := hargs
  have l1 := iS_len hp.1
  have l2 := iS_len hp.2
  refine wss_ret (dx_joined (jx_cons dx_str (jx_cons (dx_fmtI (dx_top T.O.cl T.nT (dx_var 0 hv)) hp.1) (jx_cons dx_str (jx_cons (dx_fmtI (dx_bot T.O.cl T.nB (dx_var 0 hv)) hp.2) (jx_cons dx_str jx_nil))))) ?_) hI fun u H2 y u2 i2 hy ey => k u H2 y u2 i2 hy ey
  show _ + ((iS r.t).length + (_ + ((iS r.b).length + (_ + 0)))) ≤ sizeLine
  have e2 : sizeLine = 16777216 := rfl
  rw [e2]
  refine Nat.le_trans (Nat.add_le_add (show _ ≤ 6 from Nat.le_refl 6) (Nat.add_le_add l1 (Nat.add_le_add (show _ ≤ 2 from Nat.le_refl 2) (Nat.add_le_add l2 (Nat.add_le_add (show _ ≤ 1 from Nat.le_refl 1) (Nat.le_refl 0)))))) (by decide)
end
end K11

set_option Elab.async false
set_option linter.all false
set_option maxRecDepth 100000
set_option maxHeartbeats 4000000
set_option exponentiation.threshold 20000
namespace K11
open PySem L2 Inn
open Dat (Is)
/-! ### common bottoms -/
def pB : List (Int × Int) → Nat
  | [] => 1
  | p :: r => p.2.natAbs * pB r
theorem pB_pos : ∀ {l : List (Int × Int)}, (∀ p ∈ l, 0 < p.2) → 0 < pB l
  | [], _ => Nat.one_pos
  | p :: r, h => Nat.mul_pos (Int.natAbs_pos.mpr (Int.ne_of_gt (h p List.mem_cons_self))) (pB_pos fun q hq => h q (List.mem_cons_of_mem _ hq))
def stB (acc : Int) (p : Int × Int) : Int := (Nat.lcm acc.natAbs p.2.natAbs : Nat)
def clB (l : List (Int × Int)) : Int := l.foldl stB 1
/-- what holds after some pairs -/
structure ClI (l r : List (Int × Int)) (b : Int) : Prop where
  pos : 0 < b
  le : b.natAbs * pB r ≤ pB l
theorem clI_0 (l : List (Int × Int)) : ClI l l 1 := ⟨by decide, by rw [show (1 : Int).natAbs = 1 from rfl, Nat.one_mul]; exact Nat.le_refl _⟩
theorem clI_s {l r : List (Int × Int)} {b : Int} {p : Int × Int} (h : ClI l (p :: r) b) (hp : 0 < p.2) : ClI l r (stB b p) := by
  have e1 : b.natAbs ≠ 0 := Int.natAbs_ne_zero.mpr (Int.ne_of_gt h.pos)
  have e2 : p.2.natAbs ≠ 0 := Int.natAbs_ne_zero.mpr (Int.ne_of_gt hp)
  refine ⟨Int.natCast_pos.mpr (Nat.lcm_pos (Nat.pos_of_ne_zero e1) (Nat.pos_of_ne_zero e2)), ?_⟩
  have e3 : (stB b p).natAbs ≤ b.natAbs * p.2.natAbs := by
    show (Int.natAbs ((Nat.lcm _ _ : Nat) : Int)) ≤ _
    rw [Int.natAbs_natCast]
    exact Nat.le_of_dvd (Nat.mul_pos (Nat.pos_of_ne_zero e1) (Nat.pos_of_ne_zero e2)) (Nat.lcm_dvd (Nat.dvd_mul_right _ _) (Nat.dvd_mul_left _ _))
  refine Nat.le_trans (Nat.mul_le_mul_right _ e3) ?_
  rw [Nat.mul_assoc]
  exact h.le
theorem clI_b {l r : List (Int × Int)} {b : Int} (h : ClI l r b) (hr : ∀ p ∈ r, 0 < p.2) : b.natAbs ≤ pB l := Nat.le_trans (Nat.le_mul_of_pos_right _ (pB_pos hr)) h.le
theorem clI_p {l r : List (Int × Int)} {b : Int} {p : Int × Int} (h : ClI l (p :: r) b) (hr : ∀ q ∈ r, 0 < q.2) : p.2.natAbs ≤ pB l := by
  have e1 : 0 < b.natAbs := Nat.pos_of_ne_zero (Int.natAbs_ne_zero.mpr (Int.ne_of_gt h.pos))
  refine Nat.le_trans ?_ h.le
  exact Nat.le_trans (Nat.le_mul_of_pos_right _ (pB_pos hr)) (Nat.le_mul_of_pos_left _ e1)
theorem pB_le : ∀ (l : List (Int × Int)), (∀ p ∈ l, 0 < p.2) → ∀ p ∈ l, p.2.natAbs ≤ pB l
  | q :: r, h, p, hp => by
    have hr : ∀ p ∈ r, 0 < p.2 := fun p hp => h p (List.mem_cons_of_mem _ hp)
    rcases List.mem_cons.mp hp with e | hp
    · subst e
      exact Nat.le_mul_of_pos_right _ (pB_pos hr)
    · exact Nat.le_trans (pB_le r hr p hp) (Nat.le_mul_of_pos_left _ (Int.natAbs_pos.mpr (Int.ne_of_gt (h q List.mem_cons_self))))
theorem drop_at {α : Type} : ∀ {l : List α} {i : Nat} {x : α}, l[i]? = some x → l.drop i = x :: l.drop (i + 1)
  | [], i, x, h => by simp at h
  | a :: l, 0, x, h => by
    have e : a = x := Option.some.inj h
    rw [e]
    rfl
  | a :: l, i + 1, x, h => drop_at (l := l) (i := i) (x := x) h
section
variable {P : Program} {w : World} {K : PySem.W.Frag} {mg : Str → Option Value} {base : Heap} {f C : Addr} {fd : FuncData}
def prs (l : List (Nm C)) : List (Int × Int) := l.map fun n => (n.t, n.b)
def gCl (l : List (Nm C)) : List Int × Int := ((prs l).map fun p => p.1 * (clB (prs l)).fdiv p.2, clB (prs l))
structure ClOk (l : List (Nm C)) : Prop where
  ln : l.length ≤ 100
  ok : ∀ n ∈ l, Md n.t ∧ 0 < n.b
  sz : pB (prs l) < 2 ^ 3000
theorem ClOk.pos {l : List (Nm C)} (h : ClOk l) : ∀ p ∈ prs l, 0 < p.2 := fun p hp => by
  obtain ⟨n, hn, rfl⟩ := List.mem_map.mp hp
  exact (h.ok n hn).2
theorem ClOk.md {l : List (Nm C)} (h : ClOk l) : ∀ p ∈ prs l, Md p.1 := fun p hp => by
  obtain ⟨n, hn, rfl⟩ := List.mem_map.mp hp
  exact (h.ok n hn).1
theorem fdq_le {a b : Int} (h : 0 < b) : (a.fdiv b).natAbs ≤ a.natAbs := by
  rw [Int.fdiv_eq_ediv_of_nonneg a (Int.le_of_lt h)]
  exact Int.natAbs_ediv_le_natAbs ..
theorem sc13 : FnScope ["numbers", "pairs", "below", "_", "bottom", "number", "top"] ["numbers"] (defScope (top 13)) := ⟨rfl, rfl, rfl, by decide +kernel, rfl, by decide +kernel, by decide +kernel⟩
theorem ok_cleared (F : Fun K "cleared" "cleared" (top 13) f fd) (T : Txt K mg C) (D4 : DPair P w K mg base C) : FnOk P w K mg base CX0 5 f fd ["numbers"] (SpE (fun a : Cns (Sq (Nm C)) Nil => ClOk a.h.l) fun a => gCl a.h.l) := by
  refine fn_body F sc13 rfl fun cdv A' outer s H E W vs ⟨x, ⟨⟩⟩ Q hr hargs hI hp k => ?_
  obtain ⟨v, _, rfl, hv, rfl⟩ := hargs
  have hp : ClOk x.l := hp
  refine wss_setC 1 (dc_lcS (R := fun n y => y = (n.t, n.b)) 5 (dx_var 0 hv) (Nat.le_trans hp.ln (by decide)) (fun D H1 us u1 i1 hD j y v' H2 hy u2 i2 hv' s' H' C' cl fp => ?_) rfl sc13.nd (blkOk_by (show blkC ["numbers", "pairs", "below", "_", "bottom", "number", "top"] (defScope (top 13)) _ _ = true by decide +kernel)) (fun _ _ _ _ _ => ?_)) hI (fun vp H1 ps u1 i1 hps ep => ?_)
  · exact (dx_callE D4 hr (ax_cons (dx_var 5 hv') ax_nil) trivial).to rfl
  · exact pg_name (i := 5) sc13.nd rfl (Or.inl rfl)
  have ep : ps = prs x.l := ep.eq
  subst ep
  refine wss_set 2 dx_int i1 (fun vb H2 b u2 i2 hb eb => ?_) sc13.nd
  subst eb
  cases hb
  have hps2 := Dat.up u2 hps
  refine wss_forL2 3 4 (dx_var 1 hps2) i2 (fun i σ' H' => ClI (prs x.l) ((prs x.l).drop i) (clB ((prs x.l).take i)) ∧ ∃ a b n t, σ' = [some v, some vp, some (.int (clB ((prs x.l).take i))), a, b, n, t]) sc13.nd PassesOwn.never rfl (fun H3 u3 i3 => ⟨clI_0 _, _, _, _, _, rfl⟩) (fun H3 u3 i3 i y z v1 v2 σ' H' hi u4 i4 hy hz pv' => ?_) (fun σ' H' u4 i4 pv' => ?_)
  · obtain ⟨ci, a, b, n, t, rfl⟩ := pv'
    have dr := drop_at hi
    rw [dr] at ci
    have hpos := hp.pos (y, z) (List.mem_of_getElem? hi)
    have hrest : ∀ q ∈ (prs x.l).drop (i + 1), 0 < q.2 := fun q hq => hp.pos q (List.mem_of_mem_drop hq)
    have hall : ∀ q ∈ ((y, z) :: (prs x.l).drop (i + 1)), 0 < q.2 := fun q hq => (List.mem_cons.mp hq).elim (fun e => e ▸ hpos) (hrest q)
    have l1 : (clB ((prs x.l).take i)).natAbs < 2 ^ 6000 := Nat.lt_of_le_of_lt (clI_b ci hall) (Nat.lt_of_lt_of_le hp.sz (Nat.pow_le_pow_right (by decide) (by decide)))
    have l2 : z.natAbs < 2 ^ 6000 := Nat.lt_of_le_of_lt (clI_p ci hrest) (Nat.lt_of_lt_of_le hp.sz (Nat.pow_le_pow_right (by decide) (by decide)))
    refine wss_set 2 (dx_lcm (dx_var (α := Int) (x := clB ((prs x.l).take i)) 2 rfl) (dx_var 4 hz) l1 l2 T.lcm) i4 (fun v5 H5 b5 u5 i5 h5 e5 => wss_nil ?_) sc13.nd
    subst e5
    cases h5
    have e6 : clB ((prs x.l).take (i + 1)) = stB (clB ((prs x.l).take i)) (y, z) := by
      rw [take_more hi]
      exact List.foldl_append ..
    refine ⟨u4.trans u5, i5, ?_, some v1, some v2, n, t, ?_⟩
    · rw [e6]
      exact clI_s ci hpos
    · rw [e6]
      rfl
  · obtain ⟨ci, a, b, n, t, rfl⟩ := pv'
    rw [List.take_length, List.drop_length] at ci
    rw [List.take_length]
    have hB : Md (clB (prs x.l)) := Nat.lt_of_le_of_lt (clI_b ci fun _ h => nomatch h) hp.sz
    have hps4 := Dat.up u4 hps2
    refine wss_ret (P := fun z : List Int × Int => z = gCl x.l) (Dx.imp (dx_tupP (dc_lc2 (R := fun p y => y = p.1 * (clB (prs x.l)).fdiv p.2) 6 4 (dx_var 1 hps4) (by rw [prs, List.length_map]; exact Nat.le_trans hp.ln (by decide)) (by decide) (fun D H5 us u5 i5 hD j y z v' w' H6 hy u6 i6 hv' hw' s' H' C' cl fp => ?_) rfl sc13.nd (blkOk_by (show blkC ["numbers", "pairs", "below", "_", "bottom", "number", "top"] (defScope (top 13)) _ _ = true by decide +kernel)) (fun _ _ _ _ _ => ?_)).dx (dx_var (α := Int) (x := clB (prs x.l)) 2 rfl)) fun z hz => ?_) i4 fun u H5 y u5 i5 hy ey => k u H5 y (u1.trans (u2.trans (u4.trans u5))) i5 hy ey
    · have hpos := hp.pos (y, z) (List.mem_of_getElem? hy)
      have hmd := hp.md (y, z) (List.mem_of_getElem? hy)
      have lz : z.natAbs.log2 < 9000 := Sm.log (Md.sm (Nat.lt_of_le_of_lt (pB_le (prs x.l) hp.pos _ (List.mem_of_getElem? hy)) hp.sz))
      exact dx_mul (dx_var 6 hv') (dx_fdiv (dx_var (α := Int) (x := clB (prs x.l)) 2 rfl) (dx_var 4 hw') (Int.ne_of_gt hpos) lz) (Md.cm hmd (Nat.lt_of_le_of_lt (fdq_le hpos) hB))
    · exact pg_tup rfl (pgs_cons (pg_name (i := 6) sc13.nd rfl (Or.inl rfl)) (pgs_cons (pg_name (i := 4) sc13.nd rfl (Or.inl rfl)) pgs_nil rfl) rfl) rfl rfl
    · obtain ⟨z1, z2⟩ := z
      obtain ⟨h1, h2⟩ := hz
      exact Prod.ext h1.eq h2
end
end K11

set_option Elab.async false
set_option linter.all false
set_option maxRecDepth 100000
set_option maxHeartbeats 4000000
set_option exponentiation.threshold 20000
namespace K11
open PySem L2 Inn
open Dat (Is)
theorem sum_le {B : Nat} : ∀ (l : List Int), (∀ x ∈ l, x.natAbs ≤ B) → l.sum.natAbs ≤ l.length * B
  | [], _ => by simp
  | x :: r, h => by
    have h1 := sum_le r fun y hy => h y (List.mem_cons_of_mem _ hy)
    have h2 := h x List.mem_cons_self
    rw [List.sum_cons, List.length_cons, Nat.succ_mul]
    have h3 := Int.natAbs_add_le x r.sum
    omega
section
variable {P : Program} {w : World} {K : PySem.W.Frag} {mg : Str → Option Value} {base : Heap} {f C : Addr} {fd : FuncData}
theorem clB_I {l : List (Nm C)} (h : ClOk l) : ∀ i, ClI (prs l) ((prs l).drop i) (clB ((prs l).take i))
  | 0 => clI_0 _
  | i + 1 => by
    have ih := clB_I h i
    by_cases hi : i < (prs l).length
    · have e := List.getElem?_eq_getElem hi
      rw [drop_at e] at ih
      rw [take_more e]
      have e2 : clB ((prs l).take i ++ [(prs l)[i]]) = stB (clB ((prs l).take i)) (prs l)[i] := List.foldl_append ..
      rw [e2]
      exact clI_s ih (h.pos _ (List.getElem_mem hi))
    · rw [List.drop_eq_nil_of_le (Nat.le_of_not_lt hi), List.take_of_length_le (Nat.le_of_not_lt hi)] at ih
      rw [List.drop_eq_nil_of_le (Nat.le_succ_of_le (Nat.le_of_not_lt hi)), List.take_of_length_le (Nat.le_succ_of_le (Nat.le_of_not_lt hi))]
      exact ih
theorem clB_ok {l : List (Nm C)} (h : ClOk l) : 0 < clB (prs l) ∧ Md (clB (prs l)) := by
  have z := clB_I h (prs l).length
  rw [List.take_length, List.drop_length] at z
  exact ⟨z.pos, Nat.lt_of_le_of_lt (clI_b z fun _ h => nomatch h) h.sz⟩
def gTot (l : List (Nm C)) : Rt C := mk C (gCl l).1.sum (gCl l).2
theorem clSum {l : List (Nm C)} (h : ClOk l) : Sm (gCl l).1.sum := by
  have hB := (clB_ok h).2
  have e : ∀ x ∈ (gCl l).1, x.natAbs ≤ 2 ^ 6000 := fun x hx => by
    obtain ⟨p, hp, rfl⟩ := List.mem_map.mp hx
    exact Nat.le_of_lt (Md.mul (h.md p hp) (Nat.lt_of_le_of_lt (fdq_le (h.pos p hp)) hB))
  have l1 : (gCl l).1.length ≤ 100 := by
    show (List.map _ (List.map _ l)).length ≤ 100
    rw [List.length_map, List.length_map]
    exact h.ln
  refine Nat.lt_of_le_of_lt (sum_le _ e) (Nat.lt_of_le_of_lt (Nat.mul_le_mul_right _ l1) ?_)
  have e2 : (2 : Nat) ^ 7 * 2 ^ 6000 = 2 ^ 6007 := (Nat.pow_add 2 7 6000).symm
  have e3 : (2 : Nat) ^ 6007 < 2 ^ 8000 := Nat.pow_lt_pow_right (by decide) (by decide)
  rw [← e2] at e3
  exact Nat.lt_of_le_of_lt (Nat.mul_le_mul_right _ (by decide)) e3
theorem sc19 : FnScope ["cls", "numbers", "tops", "below"] ["cls", "numbers"] (defScope (cm 19)) := ⟨rfl, rfl, rfl, by decide +kernel, rfl, by decide +kernel, by decide +kernel⟩
abbrev DClear (P : Program) (w : World) (K : PySem.W.Frag) (mg : Str → Option Value) (base : Heap) (C : Addr) : Prop := Def P w K mg base 5 "cleared" ["numbers"] (SpE (fun a : Cns (Sq (Nm C)) Nil => ClOk a.h.l) fun a => gCl a.h.l)
theorem ok_total (F : Fun K "total" "Ratio.total" (cm 19) f fd) (T : Txt K mg C) (D5 : DClear P w K mg base C) (DR : DRat P w K mg base C) : FnOk P w K mg base CX0 6 f fd ["cls", "numbers"] (SpE (fun a : Cns Cl (Cns (Sq (Nm C)) Nil) => a.h = ⟨.ref C⟩ ∧ ClOk a.t.h.l) fun a => gTot a.t.h.l) := by
  refine fn_body F sc19 rfl fun cdv A' outer s H E W vs ⟨c, x, ⟨⟩⟩ Q hr hargs hI hp k => ?_
  obtain ⟨vc, _, rfl, hc, v, _, rfl, hv, rfl⟩ := hargs
  obtain ⟨ec, hp⟩ := hp
  have ec : c = ⟨.ref C⟩ := ec
  subst ec
  have hp : ClOk x.l := hp
  refine wss_ifF0 (tx_not (k := true) (tx_val (dx_isi2 (dx_var 1 hv) T.isi T.lst T.tup))) hI rfl fun H1 u1 i1 => ?_
  refine wss_unp 2 3 (dx_callE D5 hr (ax_cons (dx_var 1 (Dat.up u1 hv)) ax_nil) hp) i1 sc19.nd rfl fun vt vb H2 ts b e u2 i2 ht hb => ?_
  have e : (ts, b) = gCl x.l := e
  have e1 : ts = (gCl x.l).1 := congrArg Prod.fst e
  have e2 : b = (gCl x.l).2 := congrArg Prod.snd e
  subst e1; subst e2
  have o := clB_ok hp
  exact wss_ret (dx_makeV (es2 := []) DR (hr.mono (by decide)) (dx_var 0 hc) (ax_cons (dx_sum rfl (dx_var 2 ht) T.sum) (ax_cons (dx_var 3 hb) ax_nil)) (Int.ne_of_gt o.1) (clSum hp) (Md.sm o.2)) i2 fun u H3 y u3 i3 hy ey => k u H3 y (u1.trans (u2.trans u3)) i3 hy ey
end
end K11

set_option Elab.async false
set_option linter.all false
set_option maxRecDepth 100000
set_option maxHeartbeats 4000000
set_option exponentiation.threshold 20000
namespace K11
open PySem L2 Inn
open Dat (Is)
theorem fmod_lt {i j : Int} (h : 0 < j) : 0 ≤ i.fmod j ∧ i.fmod j < j := ⟨Int.fmod_nonneg_of_pos i h, Int.fmod_lt_of_pos i h⟩
theorem sm30 {i : Int} (h0 : 0 ≤ i) (h : i < 2 ^ 40) : i.natAbs < 2 ^ 40 := by omega
theorem cm40 {i j : Int} (h0 : 0 ≤ i) (h : i < 2 ^ 40) (k0 : 0 ≤ j) (k : j < 2 ^ 40) : CMulW i j := wide_mul (a := 40) (b := 40) (sm30 h0 h) (sm30 k0 k) (by decide) (by decide) (by decide)
theorem dxpe {α : Type} [Dat α] {X : Cx} {W : Wld} {e : Expr} {σ : L2.St} {H : Hp} {P : α → Prop} (h : Dx X W e σ H P) : ∃ t, PE X e t := let ⟨t, pe, _⟩ := h; ⟨t, pe⟩
/-- a world of nothing that changes, one list of one number in it -/
def W0 : Wld := ⟨fun _ => False, fun _ => True, fun _ _ => trivial, fun _ h => h.elim⟩
section
variable {P : Program} {w : World} {K : PySem.W.Frag} {mg : Str → Option Value} {base : Heap} {f C : Addr} {fd : FuncData}
theorem sc15 : FnScope ["_law_script", "_law_k", "_law_cell"] ["_law_script", "_law_k"] (defScope (top 15)) := ⟨rfl, rfl, rfl, by decide +kernel, rfl, by decide +kernel, by decide +kernel⟩
def PotR (y : List Int) : Prop := ∃ c d, y = [c, d] ∧ 0 ≤ c ∧ 0 ≤ d ∧ d < 2 ^ 40
theorem ok_pot (F : Fun K "_law_pot" "_law_pot" (top 15) f fd) (T : Txt K mg C) : FnOk P w K mg base CX0 1 f fd ["_law_script", "_law_k"] (SpF (fun a : Cns (Scr K) (Cns Int Nil) => a.t.h = 0) fun _ y => PotR y) := by
  refine fn_body F sc15 rfl fun cdv A' outer s H E W vs ⟨x, i, ⟨⟩⟩ Q hr hargs hI hp k => ?_
  obtain ⟨v, _, rfl, hv, v2, _, rfl, hv2, rfl⟩ := hargs
  have hp : i = 0 := hp
  subst hp
  have hv2 : Is W H v2 (0 : Int) := hv2
  refine wss_set (P := fun y : Int => True) 2 (Dx.imp (P := fun y => y = (match x.l with | [] => 99 | a :: _ => if a < 0 then -a else a)) ?_ fun _ _ => trivial) hI (fun v3 H1 c u1 i1 h3 _ => ?_) sc15.nd
  · obtain ⟨xl⟩ := x
    have hv : Is W H v (⟨xl⟩ : Scr K) := hv
    cases xl with
    | nil =>
      refine dx_if (tx_lt (dx_var 1 hv2) (dx_lenS (dx_var (α := Scr K) 0 hv) T.len)) (fun h => absurd (of_decide_eq_true h) (show ¬ ((0 : Int) < 0) by decide)) (fun _ => (dx_add (dx_mul dx_int (dx_var 1 hv2) (cm40 (i := 45) (j := 0) (by decide) (by decide) (by decide) (by decide))) dx_int).to rfl) (fun _ => ?_) fun h => absurd (of_decide_eq_true h) (show ¬ ((0 : Int) < 0) by decide)
      have hz : Is W0 (fun _ => some (.lst [.int 0])) (.ref 0) (⟨[0]⟩ : Scr K) := ⟨0, rfl, fun h => h, SqL.of rfl⟩
      exact dxpe (W := W0) (σ := [some (.ref 0), some (.int 0)]) (H := fun _ => some (.lst [.int 0])) (dx_abs (dx_ixS (x := (⟨[0]⟩ : Scr K)) (z := 0) (n := 0) (dx_var 0 hz) (dx_var 1 rfl) rfl) T.abs)
    | cons a l =>
      refine dx_if (tx_lt (dx_var 1 hv2) (dx_lenS (dx_var (α := Scr K) 0 hv) T.len)) (fun _ => (dx_abs (dx_ixS (x := (⟨a :: l⟩ : Scr K)) (z := a) (n := 0) (dx_var (α := Scr K) 0 hv) ((dx_var 1 hv2).imp fun _ h => h) rfl) T.abs).to rfl) (fun h => ?_) (fun h => ?_) fun h => ?_
      · exfalso; revert h; simp
      · exfalso; revert h; simp
      · exact dxpe (W := W) (σ := start ["_law_script", "_law_k", "_law_cell"] [v, v2]) (H := H) (dx_add (dx_mul dx_int (dx_var 1 hv2) (cm40 (i := 45) (j := 0) (by decide) (by decide) (by decide) (by decide))) (dx_int (i := 99)))
  · have h3 : Is W H1 v3 c := h3
    have hk : Is W H1 v2 (0 : Int) := hv2
    refine wss_ret (dx_lstP (lx_consP (dx_max2P rfl dx_int (dx_sub (dx_var 2 h3) (dx_pow (i := 10) (j := 18) dx_int dx_int ⟨by decide, by decide, by decide⟩)) T.max) (lx_consP (dx_addP (dx_modP (dx_intP (dx_addP (dx_addP (dx_mulP (dx_modP (dx_intP (dx_var 2 h3) T.int) dx_int (by decide)) dx_int ?_) (dx_mul dx_int (dx_var 1 hk) (cm40 (by decide) (by decide) (by decide) (by decide)))) dx_int) T.int) dx_int (by decide)) dx_int) lx_nil)) ?_) i1 fun u H2 y u2 i2 hy ey => k u H2 y (u1.trans u2) i2 hy ?_
    · rintro i j ⟨c', _, rfl⟩ rfl
      have := fmod_lt (i := c') (j := 2147483549) (by decide)
      exact cm40 this.1 (by omega) (by decide) (by decide)
    · rintro xs ⟨x1, r1, _, ⟨x2, r2, _, e, rfl⟩, rfl⟩
      rw [e]
      show 2 ≤ 100000
      decide
    · obtain ⟨x1, r1, ⟨j1, ej1, ex1⟩, ⟨x2, r2, ⟨a2, b2, ⟨a3, _, ea3⟩, eb2, ex2⟩, er2, er1⟩, ey⟩ := ey
      have m := fmod_lt (i := a3) (j := 2147483579) (by decide)
      refine ⟨x1, x2, by rw [ey, er1, er2], ?_, ?_, ?_⟩
      · rw [ex1]; split <;> omega
      · omega
      · omega

/-! ### draws -/
theorem sc16 : FnScope ["_law_pot_here", "_law_many", "_law_digit"] ["_law_pot_here", "_law_many"] (defScope (top 16)) := ⟨rfl, rfl, rfl, by decide +kernel, rfl, by decide +kernel, by decide +kernel⟩
theorem ok_draw (F : Fun K "_law_draw" "_law_draw" (top 16) f fd) (T : Txt K mg C) : FnOk P w K mg base CX0 1 f fd ["_law_pot_here", "_law_many"] (SpF DrawPre DrawR) := by
  refine fn_body F sc16 rfl fun cdv A' outer s H E W vs ⟨x, m, ⟨⟩⟩ Q hr hargs hI hp k => ?_
  obtain ⟨v, _, rfl, hv, v2, _, rfl, hv2, rfl⟩ := hargs
  have hp0 : 0 < m := hp.1
  have hp1 : m < 2 ^ 30 := hp.2
  have hv2 : Is W H v2 m := hv2
  have pot : ∀ H, Is W H v x := fun _ => hv
  have hm9 : m.natAbs.log2 < 9000 := Sm.log (i := m) (Nat.lt_of_lt_of_le (show m.natAbs < 2 ^ 30 by omega) (Nat.pow_le_pow_right (by decide) (by decide)))
  refine wss_if (tx_gtP (dx_pot0 (dx_var 0 (pot _)) dx_int) dx_int) hI fun b H1 u1 i1 _ => ?_
  have hv21 : ∀ H', Is W H' v2 m := fun _ => hv2
  split
  · refine wss_pot0 2 (dx_divmodP (dx_pot0 (dx_var 0 (pot _)) dx_int) (dx_var 1 (hv21 _)) hp0 hm9 T.divmod) (fun H' => dx_var 0 (pot H')) (fun H' => dx_int) i1 (fun n hn => ?_) sc16.nd rfl (fun H2 n hn u2 i2 => ?_)
    · obtain ⟨i, h0, rfl⟩ := hn
      exact Int.ediv_nonneg h0 (Int.le_of_lt hp0)
    · refine wss_ret (dx_var (α := Int) (x := n.2) 2 rfl) i2 fun u H3 y u3 i3 hy ey => k u H3 y (u1.trans (u2.trans u3)) i3 hy ?_
      obtain ⟨i, h0, rfl⟩ := hn
      rw [ey]
      exact ⟨Int.emod_nonneg _ (Int.ne_of_gt hp0), Int.emod_lt_of_pos _ hp0⟩
  · refine wss_nil ?_
    refine wss_pot1 (dx_modP (dx_intP (dx_addP (dx_mulP (dx_pot1 (dx_var 0 (pot _)) dx_int) dx_int ?_) dx_int) T.int) dx_int (by decide)) (fun H' => dx_var 0 (pot H')) (fun H' => dx_int) i1 (fun n hn => ?_) (fun H2 u2 i2 => ?_)
    · rintro i j ⟨h0, h1⟩ rfl
      exact cm40 h0 h1 (by decide) (by decide)
    · obtain ⟨i, _, rfl⟩ := hn
      have := fmod_lt (i := i) (j := 2147483629) (by decide)
      exact ⟨this.1, by omega⟩
    · refine wss_ret (dx_modP (dx_intP (dx_fdivP (dx_modP (dx_intP (dx_mulP (dx_pot1 (dx_var 0 (pot _)) dx_int) (dx_pot1 (dx_var 0 (pot _)) dx_int) ?_) T.int) dx_int (by decide)) dx_int (by decide) (by decide)) T.int) (dx_var 1 (hv21 _)) (Int.ne_of_gt hp0)) i2 fun u H3 y u3 i3 hy ey => k u H3 y (u1.trans (u2.trans u3)) i3 hy ?_
      · rintro i j ⟨h0, h1⟩ ⟨k0, k1⟩
        exact cm40 h0 h1 k0 k1
      · obtain ⟨i, _, rfl⟩ := ey
        exact fmod_lt hp0
abbrev DDraw (P : Program) (w : World) (K : PySem.W.Frag) (mg : Str → Option Value) (base : Heap) : Prop := Def P w K mg base 1 "_law_draw" ["_law_pot_here", "_law_many"] (SpF DrawPre DrawR)
theorem sc17 : FnScope ["_law_pot_here", "_law_some"] ["_law_pot_here", "_law_some"] (defScope (top 17)) := ⟨rfl, rfl, rfl, by decide +kernel, rfl, by decide +kernel, by decide +kernel⟩
theorem ok_pick {α : Type} [Dat α] (F : Fun K "_law_pick" "_law_pick" (top 17) f fd) (T : Txt K mg C) (DD : DDraw P w K mg base) : FnOk P w K mg base CX0 2 f fd ["_law_pot_here", "_law_some"] (SpF (fun a : Cns Pot (Cns (List α) Nil) => 0 < a.t.h.length ∧ a.t.h.length < 1000) fun a y => y ∈ a.t.h) := by
  refine fn_body F sc17 rfl fun cdv A' outer s H E W vs ⟨x, l, ⟨⟩⟩ Q hr hargs hI hp k => ?_
  obtain ⟨v, _, rfl, hv, v2, _, rfl, hv2, rfl⟩ := hargs
  have hp0 : 0 < l.length := hp.1
  have hp1 : l.length < 1000 := hp.2
  have hv2 : Is W H v2 l := hv2
  have hv : Is W H v x := hv
  refine wss_ret (dx_ixLP (P := fun n : Int => 0 ≤ n ∧ n < l.length) (dx_var 1 hv2) (Dx.imp (dx_call (x := (⟨x, ⟨(l.length : Int), ⟨⟩⟩⟩ : Cns Pot (Cns Int Nil))) DD hr (ax_cons (dx_var 0 hv) (ax_cons (dx_len (dx_var 1 hv2) T.len) ax_nil)) ⟨by show 0 < (l.length : Int); omega, by show (l.length : Int) < 2 ^ 30; omega⟩) fun n h => h) fun n h => h) hI fun u H1 y u1 i1 hy ey => k u H1 y u1 i1 hy ?_
  obtain ⟨n, _, h⟩ := ey
  exact List.mem_of_getElem? h
end
end K11

set_option Elab.async false
set_option linter.all false
set_option maxRecDepth 100000
set_option maxHeartbeats 4000000
set_option exponentiation.threshold 20000
namespace K11
open PySem L2 Inn
open Dat (Is)
def lowP (t b : Int) : Int × Int := (t.fdiv (mkS t b), b.fdiv (mkS t b))
theorem sm_emod {x y : Nat} (h : 0 < y) : (x : Int).fmod (y : Int) = ((x % y : Nat) : Int) := by
  rw [Int.fmod_eq_emod_of_nonneg _ (Int.natCast_nonneg y)]
  rfl
section
variable {P : Program} {w : World} {K : PySem.W.Frag} {mg : Str → Option Value} {base : Heap} {f C : Addr} {fd : FuncData}
theorem sc18 : FnScope ["_law_top", "_law_bottom", "_law_one", "_law_other"] ["_law_top", "_law_bottom"] (defScope (top 18)) := ⟨rfl, rfl, rfl, by decide +kernel, rfl, by decide +kernel, by decide +kernel⟩
abbrev A5 := Cns Int (Cns Int Nil)
def okLow : A5 → Prop := fun a => Sm a.h ∧ Sm a.t.h ∧ a.t.h ≠ 0
theorem ok_low (F : Fun K "_law_low" "_law_low" (top 18) f fd) (T : Txt K mg C) : FnOk P w K mg base CX0 1 f fd ["_law_top", "_law_bottom"] (SpE okLow fun a => lowP a.h a.t.h) := by
  refine fn_body F sc18 rfl fun cdv A' outer s H E W vs ⟨t, b, ⟨⟩⟩ Q hr hargs hI hp k => ?_
  obtain ⟨v, _, rfl, hv, v2, _, rfl, hv2, rfl⟩ := hargs
  obtain ⟨st, sb, b0⟩ := hp
  have st : Sm t := st
  have sb : Sm b := sb
  have b0 : b ≠ 0 := b0
  have hv : v = .int t := hv
  have hv2 : v2 = .int b := hv2
  subst hv
  subst hv2
  refine wss_par 2 3 (dx_abs (dx_var (α := Int) (x := t) 0 rfl) T.abs) (dx_abs (dx_var (α := Int) (x := b) 1 rfl) T.abs) hI (fun v3 v4 H1 x y u1 i1 h3 h4 ex ey => ?_) rfl sc18.nd
  have ax : ∀ i : Int, (if i < 0 then -i else i) = (i.natAbs : Int) := fun i => by split <;> omega
  rw [ax] at ex ey
  subst ex; subst ey
  cases h3
  cases h4
  refine wss_while (fun m σ' H' => ∃ x : Nat, σ' = [some (.int t), some (.int b), some (.int x), some (.int m)] ∧ Nat.gcd x m = Int.gcd t b ∧ Up W H H' ∧ W.I H') PassesOwn.never b.natAbs ⟨t.natAbs, rfl, rfl, u1, i1⟩ fun m σ' H' ⟨x, es, eg, u2, i2⟩ => ?_
  subst es
  refine ⟨W, _, i2, tx_gt (dx_var (α := Int) (x := (m : Int)) 3 rfl) dx_int, fun H2 u3 i3 => ⟨fun hb => ?_, fun hb => ?_⟩⟩
  · have hm : 0 < m := by
      have := of_decide_eq_true hb
      omega
    refine wss_par 2 3 (dx_var (α := Int) (x := (m : Int)) 3 rfl) (dx_modP (dx_intP (dx_var (α := Int) (x := (x : Int)) 2 rfl) T.int) (dx_var (α := Int) (x := (m : Int)) 3 rfl) (by omega)) i3 (fun v5 v6 H3 y z u4 i4 h5 h6 ey ez => wss_nil ?_) rfl sc18.nd
    subst ey
    obtain ⟨i, ei, ez⟩ := ez
    subst ei
    rw [sm_emod hm] at ez
    subst ez
    cases h5
    cases h6
    refine ⟨x % m, Nat.mod_lt _ hm, m, rfl, ?_, u2.trans (u3.trans u4), i4⟩
    rw [← eg, Nat.gcd_comm x m]
    rw [Nat.gcd_comm, ← Nat.gcd_rec]
  · have hm : m = 0 := by
      have := of_decide_eq_false hb
      omega
    subst hm
    rw [Nat.gcd_zero_right] at eg
    subst eg
    refine wss_set 2 (dx_ifB (x := (Int.gcd t b : Int)) (y := 0 - (Int.gcd t b : Int)) (tx_gt (dx_var (α := Int) (x := b) 1 rfl) dx_int) (dx_var (α := Int) 2 rfl) (dx_sub dx_int (dx_var (α := Int) (x := (Int.gcd t b : Int)) 2 rfl))) i3 (fun v5 H3 z u4 i4 h5 e5 => ?_) sc18.nd
    have em : (if decide (0 < b) = true then (Int.gcd t b : Int) else 0 - (Int.gcd t b : Int)) = mkS t b := by
      unfold mkS
      by_cases h : 0 < b
      · rw [if_pos (decide_eq_true h), if_pos (show b > 0 from h)]
      · rw [if_neg (by rw [decide_eq_false h]; exact Bool.false_ne_true), if_neg (show ¬ b > 0 from h)]
        omega
    rw [em] at e5
    subst e5
    cases h5
    have z := mkS_ne (t := t) b0
    have lg := Sm.log (mkS_sm (t := t) b0 sb)
    exact wss_ret (dx_tup (dx_fdiv (i := t) (j := mkS t b) (dx_var 0 rfl) (dx_var 2 rfl) z lg) (dx_fdiv (i := b) (j := mkS t b) (dx_var 1 rfl) (dx_var 2 rfl) z lg)) i4 fun u H4 y u5 i5 hy ey => k u H4 y (u2.trans (u3.trans (u4.trans u5))) i5 hy ey
abbrev DLow (P : Program) (w : World) (K : PySem.W.Frag) (mg : Str → Option Value) (base : Heap) : Prop := Def P w K mg base 1 "_law_low" ["_law_top", "_law_bottom"] (SpE okLow fun a => lowP a.h a.t.h)
/-! ### reckoning with pairs -/
abbrev Pr := Int × Int
abbrev A6 := Cns Pr (Cns Pr Nil)
def pk (p : Pr) : Prop := Md p.1 ∧ Md p.2 ∧ p.2 ≠ 0
def okP : A6 → Prop := fun a => pk a.h ∧ pk a.t.h
def plusP (a b : Pr) : Pr := lowP (a.1 * b.2 + b.1 * a.2) (a.2 * b.2)
def byP (a b : Pr) : Pr := lowP (a.1 * b.1) (a.2 * b.2)
def overP (a b : Pr) : Pr := lowP (a.1 * b.2) (a.2 * b.1)
theorem scAB (i : Nat) (h : i = 19 ∨ i = 20 ∨ i = 21) : FnScope ["_law_a", "_law_b"] ["_law_a", "_law_b"] (defScope (top i)) := by
  rcases h with h | h | h <;> subst h <;> exact ⟨rfl, rfl, rfl, by decide +kernel, rfl, by decide +kernel, by decide +kernel⟩
theorem ok_plus (F : Fun K "_law_plus" "_law_plus" (top 19) f fd) (DL : DLow P w K mg base) : FnOk P w K mg base CX0 2 f fd ["_law_a", "_law_b"] (SpE okP fun a => plusP a.h a.t.h) := by
  refine fn_body F (scAB 19 (by decide)) rfl fun cdv A' outer s H E W vs ⟨⟨at', ab⟩, ⟨bt, bb⟩, ⟨⟩⟩ Q hr hargs hI hp k => ?_
  obtain ⟨v, _, rfl, hv, v2, _, rfl, hv2, rfl⟩ := hargs
  obtain ⟨⟨a1, a2, a3⟩, b1, b2, b3⟩ := hp
  have hv : Is W H v (at', ab) := hv
  have hv2 : Is W H v2 (bt, bb) := hv2
  exact wss_ret (dx_callE DL hr (ax_cons (dx_add (dx_mul (dx_ix0 (dx_var 0 hv) dx_int) (dx_ix1 (dx_var 1 hv2) dx_int) (a1.cm b2)) (dx_mul (dx_ix0 (dx_var 1 hv2) dx_int) (dx_ix1 (dx_var 0 hv) dx_int) (b1.cm a2))) (ax_cons (dx_mul (dx_ix1 (dx_var 0 hv) dx_int) (dx_ix1 (dx_var 1 hv2) dx_int) (a2.cm b2)) ax_nil))
    ⟨sm_add (a1.mul b2) (b1.mul a2), sm6 (a2.mul b2), Int.mul_ne_zero a3 b3⟩) hI fun u H1 y u1 i1 hy ey => k u H1 y u1 i1 hy ey
theorem ok_by (F : Fun K "_law_by" "_law_by" (top 20) f fd) (DL : DLow P w K mg base) : FnOk P w K mg base CX0 2 f fd ["_law_a", "_law_b"] (SpE okP fun a => byP a.h a.t.h) := by
  refine fn_body F (scAB 20 (by decide)) rfl fun cdv A' outer s H E W vs ⟨⟨at', ab⟩, ⟨bt, bb⟩, ⟨⟩⟩ Q hr hargs hI hp k => ?_
  obtain ⟨v, _, rfl, hv, v2, _, rfl, hv2, rfl⟩ := hargs
  obtain ⟨⟨a1, a2, a3⟩, b1, b2, b3⟩ := hp
  have hv : Is W H v (at', ab) := hv
  have hv2 : Is W H v2 (bt, bb) := hv2
  exact wss_ret (dx_callE DL hr (ax_cons (dx_mul (dx_ix0 (dx_var 0 hv) dx_int) (dx_ix0 (dx_var 1 hv2) dx_int) (a1.cm b1)) (ax_cons (dx_mul (dx_ix1 (dx_var 0 hv) dx_int) (dx_ix1 (dx_var 1 hv2) dx_int) (a2.cm b2)) ax_nil))
    ⟨sm6 (a1.mul b1), sm6 (a2.mul b2), Int.mul_ne_zero a3 b3⟩) hI fun u H1 y u1 i1 hy ey => k u H1 y u1 i1 hy ey
theorem ok_ovr (F : Fun K "_law_over" "_law_over" (top 21) f fd) (DL : DLow P w K mg base) : FnOk P w K mg base CX0 2 f fd ["_law_a", "_law_b"] (SpE (fun a : A6 => okP a ∧ a.t.h.1 ≠ 0) fun a => overP a.h a.t.h) := by
  refine fn_body F (scAB 21 (by decide)) rfl fun cdv A' outer s H E W vs ⟨⟨at', ab⟩, ⟨bt, bb⟩, ⟨⟩⟩ Q hr hargs hI hp k => ?_
  obtain ⟨v, _, rfl, hv, v2, _, rfl, hv2, rfl⟩ := hargs
  obtain ⟨⟨⟨a1, a2, a3⟩, b1, b2, b3⟩, b4⟩ := hp
  have hv : Is W H v (at', ab) := hv
  have hv2 : Is W H v2 (bt, bb) := hv2
  exact wss_ret (dx_callE DL hr (ax_cons (dx_mul (dx_ix0 (dx_var 0 hv) dx_int) (dx_ix1 (dx_var 1 hv2) dx_int) (a1.cm b2)) (ax_cons (dx_mul (dx_ix1 (dx_var 0 hv) dx_int) (dx_ix0 (dx_var 1 hv2) dx_int) (a2.cm b1)) ax_nil))
    ⟨sm6 (a1.mul b2), sm6 (a2.mul b1), Int.mul_ne_zero a3 b4⟩) hI fun u H1 y u1 i1 hy ey => k u H1 y u1 i1 hy ey
theorem sc23 : FnScope ["_law_value"] ["_law_value"] (defScope (top 23)) := ⟨rfl, rfl, rfl, by decide +kernel, rfl, by decide +kernel, by decide +kernel⟩
abbrev DTop (P : Program) (w : World) (K : PySem.W.Frag) (mg : Str → Option Value) (base : Heap) (C : Addr) : Prop := PDef P w K mg base 1 C "top" (SpE (tru (A := A1 C)) fun a => a.h.t)
abbrev DBot (P : Program) (w : World) (K : PySem.W.Frag) (mg : Str → Option Value) (base : Heap) (C : Addr) : Prop := PDef P w K mg base 1 C "bottom" (SpE (tru (A := A1 C)) fun a => a.h.b)
theorem ok_pair (F : Fun K "_law_pair" "_law_pair" (top 23) f fd) (T : Txt K mg C) (D1 : DTop P w K mg base C) (D2 : DBot P w K mg base C) : FnOk P w K mg base CX0 3 f fd ["_law_value"] (SpE (tru (A := A1 C)) fun a => (a.h.t, a.h.b)) := by
  refine fn_body F sc23 rfl fun cdv A' outer s H E W vs ⟨r, ⟨⟩⟩ Q hr hargs hI hp k => ?_
  obtain ⟨v, _, rfl, hv, rfl⟩ := hargs
  have hv : Is W H v r := hv
  have hw : Is W H v (Vd.rat r) := hv
  exact wss_ret (dx_if (x := (r.t, r.b)) (tx_val ((dx_isRat T.O (dx_var 0 hw) T.isi T.mgC).to (y := true) rfl)) (fun _ => dx_tup ((dx_propE T.O.cl D1 hr (dx_var 0 hv) trivial).to rfl) ((dx_propE T.O.cl D2 hr (dx_var 0 hv) trivial).to rfl)) (fun h => nomatch h) (fun h => nomatch h) fun _ => ⟨_, pe_non⟩) hI fun u H1 y u1 i1 hy ey => k u H1 y u1 i1 hy ey
end
end K11

set_option Elab.async false
set_option linter.all false
set_option maxRecDepth 100000
set_option maxHeartbeats 4000000
set_option exponentiation.threshold 20000
namespace K11
open PySem L2 Inn
open Dat (Is)
/-! ### lengths of shown lists -/
theorem sep_le (c : Prop) [Decidable c] : (Str.ofString (if c then ", " else "" : String)).length ≤ 2 := by
  split <;> decide
theorem textFrom_le (B : Nat) : ∀ (ts : List Str) (k : Nat) (acc : Str), (∀ t ∈ ts, t.length ≤ B) → (textFrom k acc ts).length ≤ acc.length + ts.length * (B + 2)
  | [], k, acc, _ => by show acc.length ≤ _; simp
  | t :: r, k, acc, h => by
    have h1 := h t List.mem_cons_self
    refine Nat.le_trans (textFrom_le B r (k + 1) _ fun x hx => h x (List.mem_cons_of_mem _ hx)) ?_
    rw [List.length_cons, Nat.succ_mul, Str.length_append, Str.length_append]
    have e := sep_le (k > 0)
    omega
theorem shownAll_map : ∀ ds : List PyData, PyData.shownAll ds = ds.map PyData.shown
  | [] => by rw [PyData.shownAll]; rfl
  | d :: r => by rw [PyData.shownAll, shownAll_map r]; rfl
theorem shown_fits {B : Nat} (ds : List PyData) (h : ∀ d ∈ ds, d.shown.length ≤ B) (hb : ds.length * (B + 2) ≤ 16000000) : (PyData.list ds).shown.length ≤ sizeLine := by
  rw [PyData.shown]
  unfold listText
  rw [Str.length_append, shownAll_map]
  have e := textFrom_le B (ds.map PyData.shown) 0 "[" fun t ht => by
    obtain ⟨d, hd, rfl⟩ := List.mem_map.mp ht
    exact h d hd
  rw [List.length_map] at e
  have e1 : (Str.ofString "[").length = 1 := rfl
  have e2 : (Str.ofString "]").length = 1 := rfl
  have e3 : sizeLine = 16777216 := rfl
  omega
theorem shown_int {i : Int} (h : i.natAbs.log2 < 1920) : (PyData.int i).shown.length ≤ 1921 := by
  rw [PyData.shown]
  exact iS_len h
theorem shown_bool (b : Bool) : (PyData.bool b).shown.length ≤ 1921 := by
  rw [PyData.shown]
  cases b <;> decide

/-! ### all that the module has -/
abbrev gIs {C : Addr} : Cns (Vd C) Nil → Bool := fun a => isIntV a.h
structure All (P : Program) (w : World) (K : PySem.W.Frag) (mg : Str → Option Value) (base : Heap) (C : Addr) : Prop where
  T : Txt K mg C
  int : DInt P w K mg base C
  intK : KDef P w K mg base 1 "is_integer" ["value"] ["value"] (· ++ ·) (SpE (fun _ : Cns (Vd C) Nil => True) fun a => isIntV a.h)
  cnt : Def P w K mg base 2 "is_count" ["value"] (SpE (fun _ : Cns (Vd C) Nil => True) fun a => isCountV a.h)
  num : DNum P w K mg base C
  rat : DRat P w K mg base C
  ratK : KCDef P w K mg base 2 C "Ratio"
  top : DTop P w K mg base C
  bot : DBot P w K mg base C
  sign : PDef P w K mg base 1 C "sign" (SpE (tru (A := A1 C)) fun a => sgn a.h.t)
  whole : PDef P w K mg base 1 C "is_whole" (SpE (tru (A := A1 C)) fun a => decide (a.h.b = 1))
  add : ODef P w K mg base 5 C .Add gAdd ok2
  sub : ODef P w K mg base 5 C .Sub gSub ok2
  mul : ODef P w K mg base 5 C .Mult gMul ok2
  radd : RDef P w K mg base 6 C .Add (fun r j => gAdd r (.i j)) ok3
  rsub : RDef P w K mg base 6 C .Sub gRsub ok3
  rmul : RDef P w K mg base 6 C .Mult (fun r j => gMul r (.i j)) ok3
  neg : NDef P w K mg base C
  over : MDef P w K mg base 5 C "over" ["self", "other"] (SpE (okOver (C := C)) fun a => gOver a.h a.t.h)
  overK : KMDef P w K mg base 5 C "over" ["self", "other"] ["other"] (SpE (okOver (C := C)) fun a => gOver a.h a.t.h)
  size : MDef P w K mg base 4 C "size" ["self"] (SpE (okSm (C := C)) fun a => gSize a.h)
  below : MDef P w K mg base 5 C "is_below" ["self", "other"] (SpE (ok2 (C := C)) fun a => decide (a.h.t * a.t.h.b < a.t.h.t * a.h.b))
  belowK : KMDef P w K mg base 5 C "is_below" ["self", "other"] ["other"] (SpE (ok2 (C := C)) fun a => decide (a.h.t * a.t.h.b < a.t.h.t * a.h.b))
  most : MDef P w K mg base 5 C "is_at_most" ["self", "other"] (SpE (ok2 (C := C)) fun a => decide (a.h.t * a.t.h.b ≤ a.t.h.t * a.h.b))
  eq : EDef P w K mg base 1 C
  str : SDef P w K mg base 1 C "__str__" strR Tx9
  repr : SDef P w K mg base 1 C "__repr__" reprR Tx9
  total : CmDef P w K mg base 6 C "total" ["cls", "numbers"] ["numbers"] (SpE (fun a : Cns Cl (Cns (Sq (Nm C)) Nil) => a.h = ⟨.ref C⟩ ∧ ClOk a.t.h.l) fun a => gTot a.t.h.l)
  draw : DDraw P w K mg base
  pickI : Def P w K mg base 2 "_law_pick" ["_law_pot_here", "_law_some"] (SpF (fun a : Cns Pot (Cns (List Int) Nil) => 0 < a.t.h.length ∧ a.t.h.length < 1000) fun a y => y ∈ a.t.h)
  pickP : Def P w K mg base 2 "_law_pick" ["_law_pot_here", "_law_some"] (SpF (fun a : Cns Pot (Cns (List Pr) Nil) => 0 < a.t.h.length ∧ a.t.h.length < 1000) fun a y => y ∈ a.t.h)
  low : DLow P w K mg base
  plus : Def P w K mg base 2 "_law_plus" ["_law_a", "_law_b"] (SpE okP fun a => plusP a.h a.t.h)
  by_ : Def P w K mg base 2 "_law_by" ["_law_a", "_law_b"] (SpE okP fun a => byP a.h a.t.h)
  ovr : Def P w K mg base 2 "_law_over" ["_law_a", "_law_b"] (SpE (fun a : A6 => okP a ∧ a.t.h.1 ≠ 0) fun a => overP a.h a.t.h)
  pair : Def P w K mg base 3 "_law_pair" ["_law_value"] (SpE (tru (A := A1 C)) fun a => (a.h.t, a.h.b))

/-! ### drawn ones -/
/-- a raw pair -/
structure RawOk (p : Pr) : Prop where
  t : p.1.natAbs < 2 ^ 120
  b : p.2.natAbs < 2 ^ 120
  n : p.2 ≠ 0
/-- .. as drawn -/
structure RawOk0 (p : Pr) : Prop where
  t : p.1.natAbs < 2 ^ 110
  b : p.2.natAbs < 2 ^ 110
  n : p.2 ≠ 0
theorem RawOk0.raw {p : Pr} (h : RawOk0 p) : RawOk p := ⟨Nat.lt_trans h.t (by decide), Nat.lt_trans h.b (by decide), h.n⟩
theorem m120 {i : Int} (h : i.natAbs < 2 ^ 120) : Md i := Nat.lt_of_lt_of_le h (Nat.pow_le_pow_right (by decide) (by decide))
section
variable {P : Program} {w : World} {K : PySem.W.Frag} {mg : Str → Option Value} {base : Heap} {f C : Addr} {fd : FuncData}
theorem tx_eqP {X : Cx} {W : Wld} {σ : L2.St} {H : Hp} {pos : Pos} {a b : Expr} {P R : Int → Prop} (ha : Dx X W a σ H P) (hb : Dx X W b σ H R) : Tx X W (.Compare a [.Eq] [b] pos) σ H (fun _ => True) := by
  obtain ⟨ta, pa, va⟩ := ha
  obtain ⟨tb, pb, vb⟩ := hb
  refine ⟨_, pt_cmpR op_eq pa pb (nomark _), fun H1 u hI Q q => va H1 u hI _ fun v H2 x u2 i2 hx px => vb H2 (u.trans u2) i2 _ fun w H3 y u3 i3 hy py => ?_⟩
  rw [Flat.is hx, Flat.is hy]
  exact ⟨Flat.sc _ _, _, rfl, q _ H3 (u2.trans u3) i3 trivial⟩
theorem sc22 : FnScope ["_law_pot_here", "_law_top", "_law_bottom", "_law_common", "_law_sign"] ["_law_pot_here"] (defScope (PySem.Challenge.pw_innerfractions_k11_ratios_reckoned.main.body.getD 22 (.Pass ⟨0, 0, 0, 0⟩))) := ⟨rfl, rfl, rfl, by decide +kernel, rfl, by decide +kernel, by decide +kernel⟩
def cB : Int := 12 * 10 ^ 24 + 99
theorem small_cm {i j : Int} (h : i.natAbs < 2 ^ 120) (k : j.natAbs < 2 ^ 120) : CMulW i j := Md.cm (m120 h) (m120 k)
theorem ok_raw (F : Fun K "_law_raw" "_law_raw" (K11.top 22) f fd) (A : All P w K mg base C) : FnOk P w K mg base CX0 3 f fd ["_law_pot_here"] (SpF (fun _ : Cns Pot Nil => True) fun _ y => RawOk0 y) := by
  refine fn_body F sc22 rfl fun cdv A' outer s H E W vs ⟨x, ⟨⟩⟩ Q hr hargs hI hp k => ?_
  obtain ⟨v, _, rfl, hv, rfl⟩ := hargs
  have hv : ∀ {H}, Is W H v x := fun {_} => hv
  have pre : ∀ m : Int, 0 < m → m < 100 → DrawPre ⟨x, ⟨m, ⟨⟩⟩⟩ := fun m h0 h1 => ⟨h0, by show m < 2 ^ 30; omega⟩
  refine wss_par 1 2 (dx_subP (dx_call A.draw (hr.mono (by decide)) (ax_cons (dx_var 0 hv) (ax_cons dx_int ax_nil)) (pre 25 (by decide) (by decide))) dx_int) (dx_addP dx_int (dx_call A.draw (hr.mono (by decide)) (ax_cons (dx_var 0 hv) (ax_cons dx_int ax_nil)) (pre 12 (by decide) (by decide)))) hI (fun v3 v4 H1 t b u1 i1 h3 h4 et eb => ?_) rfl sc22.nd
  obtain ⟨t1, t2, ⟨t3, t4⟩, rfl, et⟩ := et
  obtain ⟨b1, b2, rfl, ⟨b3, b4⟩, eb⟩ := eb
  have t4 : t1 < 25 := t4
  have b4 : b2 < 12 := b4
  cases h3
  cases h4
  refine wss_if (tx_eqP (dx_call A.draw (hr.mono (by decide)) (ax_cons (dx_var 0 hv) (ax_cons dx_int ax_nil)) (pre 3 (by decide) (by decide))) dx_int) i1 fun bb H2 u2 i2 _ => ?_
  have e24 : (10 : Int) ^ (24 : Int).toNat = 1000000000000000000000000 := by decide
  have e20 : (10 : Int) ^ (20 : Int).toNat = 100000000000000000000 := by decide
  have e4 : (10 : Int) ^ (4 : Int).toNat = 10000 := by decide
  split
  case' isTrue =>
    refine wss_par 1 2 (dx_addP (dx_mul (dx_var (α := Int) (x := t) 1 rfl) (dx_pow (i := 10) (j := 24) dx_int dx_int ⟨by decide, by decide, by decide⟩) (small_cm (by omega) (by decide))) (dx_call A.draw (hr.mono (by decide)) (ax_cons (dx_var 0 hv) (ax_cons dx_int ax_nil)) (pre 99 (by decide) (by decide))))
      (dx_addP (dx_add (dx_mul (dx_var (α := Int) (x := b) 2 rfl) (dx_pow (i := 10) (j := 20) dx_int dx_int ⟨by decide, by decide, by decide⟩) (small_cm (by omega) (by decide))) dx_int) (dx_call A.draw (hr.mono (by decide)) (ax_cons (dx_var 0 hv) (ax_cons dx_int ax_nil)) (pre 99 (by decide) (by decide)))) i2 (fun v5 v6 H3 t' b' u3 i3 h5 h6 et' eb' => wss_nil ?_) rfl sc22.nd
    obtain ⟨d1, d2, rfl, ⟨d3, d4⟩, et'⟩ := et'
    obtain ⟨c1, c2, rfl, ⟨c3, c4⟩, eb'⟩ := eb'
    have d4 : d2 < 99 := d4
    have c4 : c2 < 99 := c4
    rw [e24] at et'
    rw [e20] at eb'
    cases h5
    cases h6
    have lt : t'.natAbs ≤ 12000000000000000000000099 := by omega
    have lb : 0 < b' ∧ b' ≤ 1200000000000000000099 := by omega
    have uz : Up W H H3 := u1.trans (u2.trans u3)
    have iz := i3
    clear et' eb' u3 i3
  case' isFalse =>
    refine wss_nil ?_
    obtain ⟨t', ett⟩ : ∃ t', t' = t := ⟨_, rfl⟩
    obtain ⟨b', ebb⟩ : ∃ b', b' = b := ⟨_, rfl⟩
    obtain ⟨H3, eH3⟩ : ∃ H3, H3 = H2 := ⟨_, rfl⟩
    rw [← ett, ← ebb, ← eH3]
    have lt : t'.natAbs ≤ 12000000000000000000000099 := by omega
    have lb : 0 < b' ∧ b' ≤ 1200000000000000000099 := by omega
    have uz : Up W H H3 := by rw [eH3]; exact u1.trans u2
    have iz : W.I H3 := by rw [eH3]; exact i2
  all_goals
    refine wss_par 3 4 (dx_call A.pickI hr (ax_cons (dx_var 0 hv) (ax_cons (dx_lst (lx_cons dx_int (lx_cons dx_int (lx_cons dx_int (lx_cons (dx_pow (i := 10) (j := 4) dx_int dx_int ⟨by decide, by decide, by decide⟩) lx_nil)))) (by decide)) ax_nil)) ⟨Nat.succ_pos _, (show 4 < 1000 by decide)⟩) (dx_call A.pickI hr (ax_cons (dx_var 0 hv) (ax_cons (dx_lst (lx_cons dx_int (lx_cons (dx_neg dx_int) lx_nil)) (by decide)) ax_nil)) ⟨Nat.succ_pos _, (show 2 < 1000 by decide)⟩) iz (fun v7 v8 H4 c g u4 i4 h7 h8 ec eg => ?_) rfl sc22.nd
    cases h7
    cases h8
    rw [e4] at ec
    have lc : c = 1 ∨ c = 6 ∨ c = 35 ∨ c = 10000 := by simpa using ec
    have lg : g = 1 ∨ g = -1 := by simpa using eg
    have q1 : (t' * c).natAbs < 2 ^ 110 := by rcases lc with rfl | rfl | rfl | rfl <;> omega
    have q2 : (b' * c).natAbs < 2 ^ 110 := by rcases lc with rfl | rfl | rfl | rfl <;> omega
    have q3 : b' * c ≠ 0 := by rcases lc with rfl | rfl | rfl | rfl <;> omega
    refine wss_ret (dx_tup (dx_mul (dx_mul (dx_var (α := Int) (x := t') 1 rfl) (dx_var (α := Int) (x := c) 3 rfl) (small_cm (by omega) (by omega))) (dx_var (α := Int) (x := g) 4 rfl) (small_cm (Nat.lt_trans q1 (by decide)) (by omega))) (dx_mul (dx_mul (dx_var (α := Int) (x := b') 2 rfl) (dx_var (α := Int) (x := c) 3 rfl) (small_cm (by omega) (by omega))) (dx_var (α := Int) (x := g) 4 rfl) (small_cm (Nat.lt_trans q2 (by decide)) (by omega)))) i4 fun u H5 y u5 i5 hy ey => k u H5 y (uz.trans (u4.trans u5)) i5 hy ?_
    subst ey
    generalize t' * c = T at *
    generalize b' * c = B at *
    rcases lg with rfl | rfl
    · exact ⟨by show (T * 1).natAbs < _; omega, by show (B * 1).natAbs < _; omega, by show B * 1 ≠ 0; omega⟩
    · exact ⟨by show (T * -1).natAbs < _; omega, by show (B * -1).natAbs < _; omega, by show B * -1 ≠ 0; omega⟩
end
end K11

set_option Elab.async false
set_option linter.all false
set_option maxRecDepth 100000
set_option maxHeartbeats 4000000
set_option exponentiation.threshold 20000
namespace K11
open PySem L2 Inn
open Dat (Is)
theorem neR {α : Type} [DecidableEq α] {x y : α} (h : x = y) : (!decide (x = y)) = false := by rw [decide_eq_true h]; rfl
/-- what stands in a made Ratio -/
structure RF (r : Rt C) : Prop where
  red : Red r
  t : r.t.natAbs < 2 ^ 120
  b : r.b.natAbs < 2 ^ 120
theorem rf_of {C : Addr} {p : Pr} (h : RawOk p) : RF (mk C p.1 p.2) := ⟨mk_red h.n, Nat.lt_of_le_of_lt (mk_tle _ _) h.t, Nat.lt_of_le_of_lt (mk_ble _ _) h.b⟩
theorem l120 {i : Int} (h : i.natAbs < 2 ^ 120) : i.natAbs.log2 < 1920 := by
  by_cases z : i.natAbs = 0
  · rw [z]; decide
  · exact Nat.lt_trans ((Nat.log2_lt z).mpr h) (by decide)
section
variable {P : Program} {w : World} {K : PySem.W.Frag} {mg : Str → Option Value} {base : Heap} {f C : Addr} {fd : FuncData} {r : Rt C}
theorem RF.rk (h : RF r) : Rk r := ⟨m120 h.t, m120 h.b, Int.ne_of_gt h.red.1⟩
theorem RF.sm (h : RF r) : okSm (C := C) ⟨r, ⟨⟩⟩ := ⟨(m120 h.t).sm, (m120 h.b).sm, Int.ne_of_gt h.red.1⟩
theorem RF.tx (h : RF r) : Tx9 r := ⟨l120 h.t, l120 h.b⟩
theorem abs_red (h : Red r) : Red (⟨if r.t < 0 then -r.t else r.t, r.b⟩ : Rt C) := by
  split
  · exact h.neg
  · exact h
theorem size_eq (h : Red r) : gSize r = ⟨if r.t < 0 then -r.t else r.t, r.b⟩ := mk_self (abs_red h)
theorem rsub_eq (h : Red r) (j : Int) : gRsub r j = mk C (-(r.t * 1 - j * r.b)) (r.b * 1) := mk_negmk (show r.b * 1 ≠ 0 by rw [Int.mul_one]; exact Int.ne_of_gt h.1)
theorem rsub0 (h : Red r) : gRsub r 0 = ⟨-r.t, r.b⟩ := by
  rw [rsub_eq h, Int.mul_one, Int.mul_one, Int.zero_mul, Int.sub_zero]
  exact mk_neg h
theorem text_eq (r : Rt C) : strR r = iS r.t ++ (if (!decide (r.b = 1)) = true then Str.ofString "/" ++ iS r.b else Str.ofString "") := by
  unfold strR
  by_cases h : r.b = 1
  · rw [if_pos h, decide_eq_true h, if_neg (by decide)]
    exact (Str.append_empty _).symm
  · rw [if_neg h, decide_eq_false h, if_pos (show (!false) = true from rfl)]
    show Str.empty ++ iS r.t ++ Str.ofString "/" ++ iS r.b = _
    rw [Str.empty_append, Str.append_assoc]
theorem repr_eq (r : Rt C) : reprR r = Str.ofString "Ratio(" ++ iS r.t ++ Str.ofString ", " ++ iS r.b ++ Str.ofString ")" := by
  show Str.empty ++ Str.ofString "Ratio(" ++ iS r.t ++ Str.ofString ", " ++ iS r.b ++ Str.ofString ")" = _
  rw [Str.empty_append]
theorem sc24 : FnScope ["_law_raw_here", "_law_made", "_law_pair_here", "_law_sign", "_law_text", "_law_turned"] ["_law_raw_here"] (defScope (K11.top 24)) := ⟨rfl, rfl, rfl, by decide +kernel, rfl, by decide +kernel, by decide +kernel⟩
theorem ok_one (F : Fun K "_law_one_right" "_law_one_right" (K11.top 24) f fd) (A : All P w K mg base C) : FnG P w K mg base 9 f fd ["_law_raw_here"] (SpE (fun a : Cns Pr Nil => RawOk a.h) fun _ => true) := by
  refine fnG_body F sc24 rfl fun cdv A' outer s H W vs ⟨⟨t, b⟩, ⟨⟩⟩ Q hG hr hargs hI hp k => ?_
  obtain ⟨v, _, rfl, hv, rfl⟩ := hargs
  have hv : Is W H v ((t, b) : Pr) := hv
  have hp : RawOk (t, b) := hp
  have rf : RF (mk C t b) := rf_of hp
  have hu := hr.units
  have T := A.T
  have st := (m120 hp.t).sm
  have sb := (m120 hp.b).sm
  have n0 : b ≠ 0 := hp.n
  refine wss_par (α := Rt C) (β := Pr) (P := fun x => x = mk C t b) (R := fun y => y = ((mk C t b).t, (mk C t b).b)) 1 2 (dx_make A.rat (hr.mono (by decide)) (dx_ix0 (dx_var 0 hv) dx_int) (dx_ix1 (dx_var 0 hv) dx_int) n0 st sb)
    ((dx_callE A.low (hr.mono (by decide)) (ax_cons (dx_ix0 (dx_var 0 hv) dx_int) (ax_cons (dx_ix1 (dx_var 0 hv) dx_int) ax_nil)) ⟨st, sb, n0⟩).to rfl) hI (fun v1 v2 H1 x y u1 i1 h1 h2 ex ey => ?_) rfl sc24.nd
  subst ex; subst ey
  have hv1 := Dat.up u1 hv
  generalize hr0 : mk C t b = r at *
  -- the three comparisons
  refine wss_ifF0 (Txw.tx (txw_or' (k := false) (Tx.to (tx_neD hu (dx_callE A.pair (hr.mono (by decide)) (ax_cons (dx_var 1 h1) ax_nil) trivial) (dx_var 2 h2)) (neR rfl))
    (txw_or' (k := false) (l := false) (Tx.to (tx_neD hu (dx_callE A.pair (hr.mono (by decide)) (ax_cons (dx_makeKE A.ratK (hr.mono (by decide)) (kx_cons (dx_ix1 (dx_var 0 hv1) dx_int) (kx_cons (dx_ix0 (dx_var 0 hv1) dx_int) kx_nil)) n0 st sb) ax_nil) trivial) (dx_var 2 h2)) (neR (by rw [hr0])))
      (txw_or1 (Tx.to (tx_neOwn A.eq (hr.mono (by decide)) (dx_var 1 h1) (dx_vdR (dx_make A.rat (hr.mono (by decide)) (dx_ix0 (dx_var 2 h2) dx_int) (dx_ix1 (dx_var 2 h2) dx_int) (Int.ne_of_gt rf.red.1) (m120 rf.t).sm (m120 rf.b).sm)) rfl) (by rw [mk_self rf.red]; show (!(decide (r.t = r.t) && decide (r.b = r.b))) = false; simp)))))) i1 rfl fun H2 u2 i2 => ?_
  have k1 := Dat.up u2 h1
  have k2 := Dat.up u2 h2
  refine wss_set 3 (dx_sub (dx_intB (dx_gt (dx_ix0 (dx_var 2 k2) dx_int) dx_int) T.int) (dx_intB (dx_lt (dx_ix0 (dx_var 2 k2) dx_int) dx_int) T.int)) i2 (fun v3 H3 sg u3 i3 h3 es => ?_) sc24.nd
  have es : sg = sgn r.t := by
    rw [es]
    unfold sgn
    by_cases z : r.t = 0
    · rw [z]; decide
    · rw [if_neg z]
      by_cases z2 : 0 < r.t
      · rw [decide_eq_true z2, decide_eq_false (show ¬ r.t < 0 by omega), if_pos z2]; rfl
      · rw [decide_eq_false z2, decide_eq_true (show r.t < 0 by omega), if_neg z2]; rfl
  subst es
  have k1 := Dat.up u3 k1
  have k2 := Dat.up u3 k2
  have hshow : PyData.showableAll ([Ib.i (sgn r.t), Ib.b (decide (r.b = 1)), Ib.i r.t, Ib.i r.b].map PyR.py) = true := by
    have e1 := l120 rf.t
    have e2 := l120 rf.b
    have e3 : (sgn r.t).natAbs.log2 < 1920 := by
      unfold sgn
      split
      · decide
      · split <;> decide
    show (decide _ && (true && (decide _ && (decide _ && true)))) = true
    rw [decide_eq_true e1, decide_eq_true e2, decide_eq_true e3]
    rfl
  have hsz : (PyData.list ([Ib.i (sgn r.t), Ib.b (decide (r.b = 1)), Ib.i r.t, Ib.i r.b].map PyR.py)).shown.length ≤ sizeLine := by
    refine shown_fits (B := 1921) _ (fun d hd => ?_) (by show 4 * _ ≤ _; decide)
    have e3 : (sgn r.t).natAbs.log2 < 1920 := by
      unfold sgn
      split
      · decide
      · split <;> decide
    simp only [List.map_cons, List.map_nil, List.mem_cons, List.not_mem_nil, or_false] at hd
    rcases hd with rfl | rfl | rfl | rfl
    · exact shown_int e3
    · exact shown_bool _
    · exact shown_int (l120 rf.t)
    · exact shown_int (l120 rf.b)
  refine wss_ifF0 (Tx.to (tx_ne (x := (PyData.list ([Ib.i (sgn r.t), Ib.b (decide (r.b = 1)), Ib.i r.t, Ib.i r.b].map PyR.py)).shown) (y := (PyData.list ([Ib.i (sgn r.t), Ib.b (decide (r.b = 1)), Ib.i r.t, Ib.i r.b].map PyR.py)).shown) ?_ ?_) (neR rfl)) i3 rfl fun H4 u4 i4 => ?_
  · exact dx_reprL (xs := [Ib.i (sgn r.t), Ib.b (decide (r.b = 1)), Ib.i r.t, Ib.i r.b]) hG hu (by decide) (dx_lst (lx_cons (dx_ibI ((dx_propE T.O.cl A.sign (hr.mono (by decide)) (dx_var 1 k1) trivial).to rfl)) (lx_cons (dx_ibB ((dx_propE T.O.cl A.whole (hr.mono (by decide)) (dx_var 1 k1) trivial).to rfl)) (lx_cons (dx_ibI ((dx_propE T.O.cl A.top (hr.mono (by decide)) (dx_var 1 k1) trivial).to rfl)) (lx_cons (dx_ibI ((dx_propE T.O.cl A.bot (hr.mono (by decide)) (dx_var 1 k1) trivial).to rfl)) lx_nil)))) (by show 4 ≤ 100000; decide)) hshow hsz T.repr
  · exact dx_reprL (xs := [Ib.i (sgn r.t), Ib.b (decide (r.b = 1)), Ib.i r.t, Ib.i r.b]) hG hu (by decide) (dx_lst (lx_cons (dx_ibI (dx_var 3 h3)) (lx_cons (dx_ibB (dx_eq (dx_ix1 (dx_var 2 k2) dx_int) dx_int)) (lx_cons (dx_ibI (dx_ix0 (dx_var 2 k2) dx_int)) (lx_cons (dx_ibI (dx_ix1 (dx_var 2 k2) dx_int)) lx_nil)))) (by show 4 ≤ 100000; decide)) hshow hsz T.repr
  have k1 := Dat.up u4 k1
  have k2 := Dat.up u4 k2
  have l1 := iS_len (l120 rf.t)
  have l2 := iS_len (l120 rf.b)
  have s1 : sizeLine = 16777216 := rfl
  have c1 : (Str.ofString "/" ++ iS r.b).length ≤ 1922 := by
    rw [Str.length_append]
    have : (Str.ofString "/").length = 1 := rfl
    omega
  refine wss_set 4 (dx_addS (dx_strI (dx_ix0 (dx_var 2 k2) dx_int) (l120 rf.t) T.str) (dx_ifB (x := Str.ofString "/" ++ iS r.b) (y := Str.ofString "") (tx_ne (dx_ix1 (dx_var 2 k2) dx_int) dx_int) (dx_addS dx_str (dx_strI (dx_ix1 (dx_var 2 k2) dx_int) (l120 rf.b) T.str) (by show _ + (iS r.b).length ≤ _; have : (Str.ofString "/").length = 1 := rfl; omega)) dx_str) ?_) i4 (fun v5 H5 tx u5 i5 h5 et => ?_) sc24.nd
  · have : ∀ c : Prop, ∀ [Decidable c], (if c then Str.ofString "/" ++ iS r.b else Str.ofString "" : Str).length ≤ 1922 := fun c _ => by
      split
      · exact c1
      · decide
    refine Nat.le_trans (Nat.add_le_add (show (iS r.t).length ≤ 1921 from l1) (this _)) (by decide)
  have k1 := Dat.up u5 k1
  have k2 := Dat.up u5 k2
  refine wss_ifF0 (Txw.tx (txw_or' (k := false) (Tx.to (tx_ne (dx_strOwn A.str (hr.mono (by decide)) (dx_var 1 k1) rf.tx T.str) (dx_var 4 h5)) (neR (by rw [et]; exact text_eq r)))
    (txw_or1 (Tx.to (tx_ne (dx_reprOwn A.repr (hr.mono (by decide)) (dx_var 1 k1) rf.tx T.repr) (dx_addS (dx_addS (dx_addS (dx_addS dx_str (dx_strI (dx_ix0 (dx_var 2 k2) dx_int) (l120 rf.t) T.str) ?_) dx_str ?_) (dx_strI (dx_ix1 (dx_var 2 k2) dx_int) (l120 rf.b) T.str) ?_) dx_str ?_)) (neR (repr_eq r)))))) i5 rfl fun H6 u6 i6 => ?_
  · show _ + (iS r.t).length ≤ _
    have : (Str.ofString "Ratio(").length = 6 := rfl
    omega
  · show (Str.ofString "Ratio(" ++ iS r.t).length + _ ≤ _
    rw [Str.length_append]
    have : (Str.ofString "Ratio(").length = 6 := rfl
    have : (Str.ofString ", ").length = 2 := rfl
    omega
  · show (Str.ofString "Ratio(" ++ iS r.t ++ Str.ofString ", ").length + (iS r.b).length ≤ _
    rw [Str.length_append, Str.length_append]
    have : (Str.ofString "Ratio(").length = 6 := rfl
    have : (Str.ofString ", ").length = 2 := rfl
    omega
  · show (Str.ofString "Ratio(" ++ iS r.t ++ Str.ofString ", " ++ iS r.b).length + _ ≤ _
    rw [Str.length_append, Str.length_append, Str.length_append]
    have : (Str.ofString "Ratio(").length = 6 := rfl
    have : (Str.ofString ", ").length = 2 := rfl
    have : (Str.ofString ")").length = 1 := rfl
    omega
  have k1 := Dat.up u6 k1
  have k2 := Dat.up u6 k2
  refine wss_set 5 (dx_tup (dx_sub dx_int (dx_ix0 (dx_var 2 k2) dx_int)) (dx_ix1 (dx_var 2 k2) dx_int)) i6 (fun v7 H7 tu u7 i7 h7 eu => ?_) sc24.nd
  subst eu
  have k1 := Dat.up u7 k1
  have k2 := Dat.up u7 k2
  have rk := rf.rk
  refine wss_ifF0 (Tx.to (tx_neD (α := List Pr) hu (dx_lst (lx_cons (dx_callE A.pair (hr.mono (by decide)) (ax_cons (dx_meth0E T.O.cl A.size (hr.mono (by decide)) (dx_var 1 k1) rf.sm) ax_nil) trivial) (lx_cons (dx_callE A.pair (hr.mono (by decide)) (ax_cons (dx_negR A.neg (hr.mono (by decide)) (dx_var 1 k1) rf.sm) ax_nil) trivial) (lx_cons (dx_callE A.pair (hr.mono (by decide)) (ax_cons (dx_rsub A.rsub (hr.mono (by decide)) dx_int (dx_var 1 k1) ⟨rk, m120 (show (0 : Int).natAbs < 2 ^ 120 by decide)⟩) ax_nil) trivial) lx_nil))) (by show 3 ≤ 100000; decide))
    (dx_lst (lx_cons (dx_tup (dx_abs (dx_ix0 (dx_var 2 k2) dx_int) T.abs) (dx_ix1 (dx_var 2 k2) dx_int)) (lx_cons (dx_var 5 h7) (lx_cons (dx_var 5 h7) lx_nil))) (by show 3 ≤ 100000; decide))) (neR (by
      show [((gSize r).t, (gSize r).b), ((gNeg r).t, (gNeg r).b), ((gRsub r 0).t, (gRsub r 0).b)] = _
      rw [size_eq rf.red, mk_neg rf.red, rsub0 rf.red, Int.zero_sub]))) i7 rfl fun H8 u8 i8 => ?_
  have k1 := Dat.up u8 k1
  exact wss_ret (Dx.to (dx_eqD (α := List Bool) hu (dx_lst (lx_cons (dx_callE A.num (hr.mono (by decide)) (ax_cons (dx_vdR (dx_var 1 k1)) ax_nil) trivial) (lx_cons (dx_callE A.int (hr.mono (by decide)) (ax_cons (dx_vdR (dx_var 1 k1)) ax_nil) trivial) (lx_cons (dx_callE A.cnt (hr.mono (by decide)) (ax_cons (dx_vdR (dx_var 1 k1)) ax_nil) trivial) lx_nil))) (by show 3 ≤ 100000; decide)) (dx_lst (lx_cons dx_bl (lx_cons dx_bl (lx_cons dx_bl lx_nil))) (by show 3 ≤ 100000; decide))) (decide_eq_true rfl)) i8
    fun u H9 y u9 i9 hy ey => k u H9 y (u1.trans (u2.trans (u3.trans (u4.trans (u5.trans (u6.trans (u7.trans (u8.trans u9)))))))) i9 hy ey
end
end K11

set_option Elab.async false
set_option linter.all false
set_option maxRecDepth 100000
set_option maxHeartbeats 8000000
set_option exponentiation.threshold 20000
namespace K11
open PySem L2 Inn
open Dat (Is)
section
variable {P : Program} {w : World} {K : PySem.W.Frag} {mg : Str → Option Value} {base : Heap} {f C : Addr} {fd : FuncData}
theorem txpw {X : Cx} {W : Wld} {e : Expr} {σ : L2.St} {H : Hp} {P : Bool → Prop} (h : Txw X W e σ H P) : ∃ t, PW X e t := let ⟨t, pe, _⟩ := h; ⟨t, pe⟩
/-! ### what the two sides tell -/
variable {r q : Rt C} {n : Int}
def pr (r : Rt C) : Pr := (r.t, r.b)
theorem p_sub (r q : Rt C) : plusP (pr r) (0 - q.t, q.b) = pr (gSub r (.r q)) := by
  show lowP (r.t * q.b + (0 - q.t) * r.b) (r.b * q.b) = lowP (r.t * q.b - q.t * r.b) (r.b * q.b)
  rw [Int.zero_sub, Int.neg_mul, ← Int.sub_eq_add_neg]
theorem p_subI (r : Rt C) (n : Int) : plusP (pr r) (0 - n, 1) = pr (gSub r (.i n)) := by
  show lowP (r.t * 1 + (0 - n) * r.b) (r.b * 1) = lowP (r.t * 1 - n * r.b) (r.b * 1)
  rw [Int.zero_sub, Int.neg_mul, ← Int.sub_eq_add_neg]
theorem p_rsub (h : Red r) (n : Int) : plusP (n, 1) (0 - r.t, r.b) = pr (gRsub r n) := by
  rw [rsub_eq h]
  show lowP (n * r.b + (0 - r.t) * 1) (1 * r.b) = lowP (-(r.t * 1 - n * r.b)) (r.b * 1)
  have e1 : n * r.b + (0 - r.t) * 1 = -(r.t * 1 - n * r.b) := by
    rw [Int.mul_one, Int.mul_one]
    generalize n * r.b = z
    omega
  rw [e1]
  simp only [Int.one_mul, Int.mul_one]
theorem eqV_side (hr : Red r) (hq : Red q) : eqRV r (.rat q) = decide (r.t * q.b - q.t * r.b = 0) := by
  show (decide (r.t = q.t) && decide (r.b = q.b)) = _
  by_cases h : r.t * q.b - q.t * r.b = 0
  · have e := red_uniq hr hq (by omega)
    subst e
    rw [decide_eq_true h, decide_eq_true rfl, decide_eq_true rfl]
    rfl
  · rw [decide_eq_false h]
    by_cases h1 : r.t = q.t
    · by_cases h2 : r.b = q.b
      · exfalso
        apply h
        rw [h1, h2]
        exact Int.sub_self _
      · rw [decide_eq_false h2, Bool.and_false]
    · rw [decide_eq_false h1, Bool.false_and]
def told (r q : Rt C) (n : Int) : List Bool := [decide (r.t * q.b < q.t * r.b), decide (q.t * r.b < r.t * q.b), decide (r.t * q.b ≤ q.t * r.b), eqRV r (.rat q), !eqRV r (.rat q), decide (r.t * 1 < n * r.b), decide (r.t * 1 ≤ n * r.b)]
def due (s b : Int) : List Bool := [decide (s < 0), decide (0 < s), decide (s ≤ 0), decide (s = 0), !decide (s = 0), decide (b < 0), decide (b ≤ 0)]
theorem told_due (hr : Red r) (hq : Red q) (n : Int) : told r q n = due (r.t * q.b - q.t * r.b) (r.t - n * r.b) := by
  unfold told due
  rw [eqV_side hr hq, Int.mul_one]
  generalize r.t * q.b = x
  generalize q.t * r.b = y
  generalize n * r.b = z
  have e1 : decide (x < y) = decide (x - y < 0) := decide_eq_decide.mpr (by omega)
  have e2 : decide (y < x) = decide (0 < x - y) := decide_eq_decide.mpr (by omega)
  have e3 : decide (x ≤ y) = decide (x - y ≤ 0) := decide_eq_decide.mpr (by omega)
  have e6 : decide (r.t < z) = decide (r.t - z < 0) := decide_eq_decide.mpr (by omega)
  have e7 : decide (r.t ≤ z) = decide (r.t - z ≤ 0) := decide_eq_decide.mpr (by omega)
  rw [e1, e2, e3, e6, e7]
theorem bshow : ∀ bs : List Bool, PyData.showableAll (bs.map PyR.py) = true
  | [] => rfl
  | b :: r => by show (true && _) = true; rw [bshow r]; rfl
theorem bfit (bs : List Bool) (h : bs.length ≤ 100) : (PyData.list (bs.map PyR.py)).shown.length ≤ sizeLine := by
  refine shown_fits (B := 1921) _ (fun d hd => ?_) (by rw [List.length_map]; exact Nat.le_trans (Nat.mul_le_mul_right _ h) (by decide))
  obtain ⟨b, _, rfl⟩ := List.mem_map.mp hd
  exact shown_bool b
/-! a state in which all can be read -/
def Hf (C : Addr) : Hp := fun a => if a = 0 then some (.ins C 0 (rfs 1 1)) else some (.tup [.int 1, .int 1])
theorem hf0 : Is W0 (Hf C) (.ref 0) (⟨1, 1⟩ : Rt C) := ⟨0, 0, rfl, fun h => h, rfl⟩
theorem hf1 : Is W0 (Hf C) (.ref 1) ((1, 1) : Pr) := ⟨1, .int 1, .int 1, rfl, fun h => h, rfl, rfl, rfl⟩
def sf : L2.St := [some (.ref 1), some (.ref 1), some (.int 1), some (.ref 0), some (.ref 0), some (.ref 1), some (.ref 1), some (.ref 1), none, none, none, none, none, none, none, none, none]
theorem one_ok : Rk (⟨1, 1⟩ : Rt C) := ⟨md_one, md_one, by show (1 : Int) ≠ 0; decide⟩
theorem pk1 : pk (1, 1) := ⟨md_one, md_one, by show (1 : Int) ≠ 0; decide⟩
theorem sc25 : FnScope ["_law_raw_here", "_law_other", "_law_number", "_law_made", "_law_mate", "_law_one", "_law_two", "_law_whole", "_law_found", "_law_minus_two", "_law_minus_one", "_law_minus_whole", "_law_due", "_law_side", "_law_beside", "_law_told", "_law_value"] ["_law_raw_here", "_law_other", "_law_number"] (defScope (K11.top 25)) := ⟨rfl, rfl, rfl, by decide +kernel, rfl, by decide +kernel, by decide +kernel⟩
abbrev A7 := Cns Pr (Cns Pr (Cns Int Nil))
def okTwo : A7 → Prop := fun a => RawOk a.h ∧ RawOk a.t.h ∧ a.t.t.h.natAbs < 2 ^ 120
theorem ok_two (F : Fun K "_law_two_right" "_law_two_right" (K11.top 25) f fd) (A : All P w K mg base C) : FnG P w K mg base 9 f fd ["_law_raw_here", "_law_other", "_law_number"] (SpE okTwo fun _ => true) := by
  refine fnG_body F sc25 rfl fun cdv A' outer s H W vs ⟨⟨t, b⟩, ⟨t', b'⟩, n, ⟨⟩⟩ Q hG hr hargs hI hp k => ?_
  obtain ⟨v, _, rfl, hv, v', _, rfl, hv', vn, _, rfl, hn, rfl⟩ := hargs
  have hv : Is W H v ((t, b) : Pr) := hv
  have hv' : Is W H v' ((t', b') : Pr) := hv'
  have hn : vn = .int n := hn
  subst hn
  obtain ⟨hp, hp', ln⟩ := hp
  have hp : RawOk (t, b) := hp
  have hp' : RawOk (t', b') := hp'
  have ln : n.natAbs < 2 ^ 120 := ln
  have rf : RF (mk C t b) := rf_of hp
  have qf : RF (mk C t' b') := rf_of hp'
  have hu := hr.units
  have T := A.T
  refine wss_par5 (x := (⟨mk C t b, ⟨mk C t' b', ⟨pr (mk C t b), ⟨pr (mk C t' b'), ⟨((n, 1) : Pr), ⟨⟩⟩⟩⟩⟩⟩ : Cns (Rt C) (Cns (Rt C) (Cns Pr (Cns Pr (Cns Pr Nil)))))) 3 4 5 6 7
    (ax_cons (dx_make A.rat (hr.mono (by decide)) (dx_ix0 (dx_var 0 hv) dx_int) (dx_ix1 (dx_var 0 hv) dx_int) hp.n (m120 hp.t).sm (m120 hp.b).sm)
      (ax_cons (dx_make A.rat (hr.mono (by decide)) (dx_ix0 (dx_var 1 hv') dx_int) (dx_ix1 (dx_var 1 hv') dx_int) hp'.n (m120 hp'.t).sm (m120 hp'.b).sm)
        (ax_cons ((dx_callE A.low (hr.mono (by decide)) (ax_cons (dx_ix0 (dx_var 0 hv) dx_int) (ax_cons (dx_ix1 (dx_var 0 hv) dx_int) ax_nil)) ⟨(m120 hp.t).sm, (m120 hp.b).sm, hp.n⟩).to rfl)
          (ax_cons ((dx_callE A.low (hr.mono (by decide)) (ax_cons (dx_ix0 (dx_var 1 hv') dx_int) (ax_cons (dx_ix1 (dx_var 1 hv') dx_int) ax_nil)) ⟨(m120 hp'.t).sm, (m120 hp'.b).sm, hp'.n⟩).to rfl)
            (ax_cons (dx_tup (dx_var (α := Int) (x := n) 2 rfl) dx_int) ax_nil))))) rfl hI (fun v1 v2 v3 v4 v5 H1 u1 i1 h => ?_) rfl sc25.nd
  obtain ⟨_, _, e, h1, _, _, e', h2, _, _, e'', h3, _, _, e''', h4, _, _, e'''', h5, e5⟩ := h
  cases e; cases e'; cases e''; cases e'''; cases e''''; clear e5
  have h1 : Is W H1 v1 (mk C t b) := h1
  have h2 : Is W H1 v2 (mk C t' b') := h2
  have h3 : Is W H1 v3 (pr (mk C t b)) := h3
  have h4 : Is W H1 v4 (pr (mk C t' b')) := h4
  have h5 : Is W H1 v5 ((n, 1) : Pr) := h5
  generalize mk C t b = r at *
  generalize mk C t' b' = q at *
  have rk := rf.rk
  have qk := qf.rk
  have nk : Nk (.i n : Nm C) := ⟨m120 ln, md_one, by show (1 : Int) ≠ 0; decide⟩
  have qk' : Nk (.r q : Nm C) := qk
  show Wss _ _ _ [some v, some v', some (.int n), some v1, some v2, some v3, some v4, some v5, none, none, none, none, none, none, none, none, none] H1
  refine wss_set (P := fun y => y = [gAdd r (.r q), gSub r (.r q), gMul r (.r q), gAdd r (.i n), gAdd r (.i n), gSub r (.i n), gRsub r n, gMul r (.i n), gMul r (.i n)]) 8 (dx_lst (lx_cons (dx_ownop A.add (hr.mono (by decide)) (dx_var 3 h1) (dx_nmR (dx_var 4 h2)) ⟨rk, qk'⟩) (lx_cons (dx_ownop A.sub (hr.mono (by decide)) (dx_var 3 h1) (dx_nmR (dx_var 4 h2)) ⟨rk, qk'⟩) (lx_cons (dx_ownop A.mul (hr.mono (by decide)) (dx_var 3 h1) (dx_nmR (dx_var 4 h2)) ⟨rk, qk'⟩)
    (lx_cons (dx_ownop A.add (hr.mono (by decide)) (dx_var 3 h1) (dx_nmI (dx_var (α := Int) 2 rfl)) ⟨rk, nk⟩) (lx_cons ((dx_radd A.radd (hr.mono (by decide)) (dx_var (α := Int) (x := n) 2 rfl) (dx_var 3 h1) ⟨rk, m120 ln⟩).to rfl)
      (lx_cons (dx_ownop A.sub (hr.mono (by decide)) (dx_var 3 h1) (dx_nmI (dx_var (α := Int) 2 rfl)) ⟨rk, nk⟩) (lx_cons (dx_rsub A.rsub (hr.mono (by decide)) (dx_var (α := Int) 2 rfl) (dx_var 3 h1) ⟨rk, m120 ln⟩)
        (lx_cons (dx_ownop A.mul (hr.mono (by decide)) (dx_var 3 h1) (dx_nmI (dx_var (α := Int) 2 rfl)) ⟨rk, nk⟩) (lx_cons ((dx_rmul A.rmul (hr.mono (by decide)) (dx_var (α := Int) (x := n) 2 rfl) (dx_var 3 h1) ⟨rk, m120 ln⟩).to rfl) lx_nil))))))))) (by show 9 ≤ 100000; decide)) i1 (fun v8 H2 fnd u2 i2 h8 e8 => ?_) sc25.nd
  subst e8
  have k3 := Dat.up u2 h3
  have k4 := Dat.up u2 h4
  have k5 := Dat.up u2 h5
  show Wss _ _ _ [some v, some v', some (.int n), some v1, some v2, some v3, some v4, some v5, some v8, none, none, none, none, none, none, none, none] H2
  refine wss_par3 9 10 11 (ax_cons (dx_tup (dx_sub dx_int (dx_ix0 (dx_var 6 k4) dx_int)) (dx_ix1 (dx_var 6 k4) dx_int)) (ax_cons (dx_tup (dx_sub dx_int (dx_ix0 (dx_var 5 k3) dx_int)) (dx_ix1 (dx_var 5 k3) dx_int)) (ax_cons (dx_tup (dx_sub dx_int (dx_var (α := Int) (x := n) 2 rfl)) dx_int) ax_nil))) i2 (fun v9 v10 v11 H3 u3 i3 h9 h10 h11 => ?_) rfl sc25.nd
  have k3 := Dat.up u3 k3
  have k4 := Dat.up u3 k4
  have k5 := Dat.up u3 k5
  have h9 : Is W H3 v9 ((0 - q.t, q.b) : Pr) := h9
  have h10 : Is W H3 v10 ((0 - r.t, r.b) : Pr) := h10
  have h11 : Is W H3 v11 ((0 - n, 1) : Pr) := h11
  have md0 : ∀ {i : Int}, i.natAbs < 2 ^ 120 → Md (0 - i) := fun h => m120 (by omega)
  have z1 : pk (pr r) := rk
  have z2 : pk (pr q) := qk
  have zn : pk (n, 1) := ⟨m120 ln, md_one, by show (1 : Int) ≠ 0; decide⟩
  have y1 : pk (0 - r.t, r.b) := ⟨md0 rf.t, rk.2.1, rk.2.2⟩
  have y2 : pk (0 - q.t, q.b) := ⟨md0 qf.t, qk.2.1, qk.2.2⟩
  have yn : pk (0 - n, 1) := ⟨md0 ln, md_one, by show (1 : Int) ≠ 0; decide⟩
  have hr2 := hr.mono (show 2 ≤ 8 by decide)
  show Wss _ _ _ [some v, some v', some (.int n), some v1, some v2, some v3, some v4, some v5, some v8, some v9, some v10, some v11, none, none, none, none, none] H3
  refine wss_set (P := fun y => y = [plusP (pr r) (pr q), plusP (pr r) (0 - q.t, q.b), byP (pr r) (pr q), plusP (pr r) (n, 1), plusP (pr r) (n, 1), plusP (pr r) (0 - n, 1)]) 12 (dx_lst (lx_cons ((dx_callE A.plus hr2 (ax_cons (dx_var 5 k3) (ax_cons (dx_var 6 k4) ax_nil)) ⟨z1, z2⟩).to rfl) (lx_cons ((dx_callE A.plus hr2 (ax_cons (dx_var 5 k3) (ax_cons (dx_var 9 h9) ax_nil)) ⟨z1, y2⟩).to rfl) (lx_cons ((dx_callE A.by_ hr2 (ax_cons (dx_var 5 k3) (ax_cons (dx_var 6 k4) ax_nil)) ⟨z1, z2⟩).to rfl)
    (lx_cons ((dx_callE A.plus hr2 (ax_cons (dx_var 5 k3) (ax_cons (dx_var 7 k5) ax_nil)) ⟨z1, zn⟩).to rfl) (lx_cons ((dx_callE A.plus hr2 (ax_cons (dx_var 5 k3) (ax_cons (dx_var 7 k5) ax_nil)) ⟨z1, zn⟩).to rfl) (lx_cons ((dx_callE A.plus hr2 (ax_cons (dx_var 5 k3) (ax_cons (dx_var 11 h11) ax_nil)) ⟨z1, yn⟩).to rfl) lx_nil)))))) (by show 6 ≤ 100000; decide)) i3 (fun v12 H4 d1 u4 i4 h12 e12 => ?_) sc25.nd
  subst e12
  have k3 := Dat.up u4 k3
  have k4 := Dat.up u4 k4
  have k5 := Dat.up u4 k5
  have k10 := Dat.up u4 h10
  refine wss_set 12 (dx_cat (dx_var 12 h12) (dx_lst (lx_cons ((dx_callE A.plus hr2 (ax_cons (dx_var 7 k5) (ax_cons (dx_var 10 k10) ax_nil)) ⟨zn, y1⟩).to rfl) (lx_cons ((dx_callE A.by_ hr2 (ax_cons (dx_var 5 k3) (ax_cons (dx_var 7 k5) ax_nil)) ⟨z1, zn⟩).to rfl) (lx_cons ((dx_callE A.by_ hr2 (ax_cons (dx_var 5 k3) (ax_cons (dx_var 7 k5) ax_nil)) ⟨z1, zn⟩).to rfl) lx_nil))) (xs := [plusP (n, 1) (0 - r.t, r.b), byP (pr r) (n, 1), byP (pr r) (n, 1)]) (by show 3 ≤ 100000; decide)) (by show 6 + 3 ≤ 100000; decide)) i4 (fun v13 H5 d2 u5 i5 h13 e13 => ?_) sc25.nd
  subst e13
  have k1 := Dat.up (u2.trans (u3.trans (u4.trans u5))) h1
  have k2 := Dat.up (u2.trans (u3.trans (u4.trans u5))) h2
  have k3 := Dat.up u5 k3
  have k4 := Dat.up u5 k4
  have k5 := Dat.up u5 k5
  have k8 := Dat.up (u3.trans (u4.trans u5)) h8
  show Wss _ _ _ [some v, some v', some (.int n), some v1, some v2, some v3, some v4, some v5, some v8, some v9, some v10, some v11, some v13, none, none, none, none] H5
  refine wss_ifF0 (Tx.to (tx_neD (α := List Pr) hu (Dx.imp (dc_lc (R := fun x y => y = pr x) 16 (dx_var 8 k8) (by show 9 ≤ 40000; decide) (fun D H6 us u6 i6 hD j y v' H7 hy u7 i7 hv'' s' H' C' cl fp => ?_) rfl sc25.nd (blkOk_by (show blkC ["_law_raw_here", "_law_other", "_law_number", "_law_made", "_law_mate", "_law_one", "_law_two", "_law_whole", "_law_found", "_law_minus_two", "_law_minus_one", "_law_minus_whole", "_law_due", "_law_side", "_law_beside", "_law_told", "_law_value"] (defScope (K11.top 25)) _ _ = true by decide +kernel)) (fun _ _ _ _ _ => ?_)).dx fun ys h => h.eq) (dx_var 12 h13)) (neR ?_)) i5 rfl fun H6 u6 i6 => ?_
  · exact (dx_callE A.pair (hr.mono (by decide)) (ax_cons (dx_var 16 hv'') ax_nil) trivial).to rfl
  · exact pg_name (i := 16) sc25.nd rfl (Or.inl rfl)
  · show [pr (gAdd r (.r q)), pr (gSub r (.r q)), pr (gMul r (.r q)), pr (gAdd r (.i n)), pr (gAdd r (.i n)), pr (gSub r (.i n)), pr (gRsub r n), pr (gMul r (.i n)), pr (gMul r (.i n))] = [plusP (pr r) (pr q), plusP (pr r) (0 - q.t, q.b), byP (pr r) (pr q), plusP (pr r) (n, 1), plusP (pr r) (n, 1), plusP (pr r) (0 - n, 1), plusP (n, 1) (0 - r.t, r.b), byP (pr r) (n, 1), byP (pr r) (n, 1)]
    rw [p_sub, p_subI, p_rsub rf.red]
    rfl
  have k1 := Dat.up u6 k1
  have k2 := Dat.up u6 k2
  have k3 := Dat.up u6 k3
  have k4 := Dat.up u6 k4
  have k5 := Dat.up u6 k5
  refine wss_ifF0 (Txw.tx (txw_and (k := !decide (q.t = 0)) (l := false) (tx_ne (dx_ix0 (dx_var 6 k4) dx_int) dx_int) (fun hk => ?_) fun _ => txpw (W := W0) (σ := sf) (H := Hf C) (txw_and1 (tx_neD (α := List Pr) hu (dx_lst (lx_cons (dx_callE A.pair (hr.mono (by decide)) (ax_cons (dx_methE T.O.cl A.over (hr.mono (by decide)) (dx_var 3 hf0) (ax_cons (dx_nmR (dx_var 4 hf0)) ax_nil) ⟨one_ok, one_ok, (show (1 : Int) ≠ 0 by decide)⟩) ax_nil) trivial) (lx_cons (dx_callE A.pair (hr.mono (by decide)) (ax_cons (dx_methKE T.O.cl A.overK (hr.mono (by decide)) (dx_var 3 hf0) (kx_cons (dx_nmR (dx_var 4 hf0)) kx_nil) ⟨one_ok, one_ok, (show (1 : Int) ≠ 0 by decide)⟩ rfl) ax_nil) trivial) lx_nil)) (by show 2 ≤ 100000; decide))
      (dx_rep (dx_lst (lx_cons (dx_callE A.ovr hr2 (ax_cons (dx_var 5 hf1) (ax_cons (dx_var 6 hf1) ax_nil)) ⟨⟨pk1, pk1⟩, (show (1 : Int) ≠ 0 by decide)⟩) lx_nil) (by show 1 ≤ 100000; decide)) dx_int (by decide) (by decide) (by show 1 ≤ 1000; decide)))))) i6 (Bool.and_false _) fun H7 u7 i7 => ?_
  · have hz : q.t ≠ 0 := by simpa using hk
    exact txw_and1 (Tx.to (tx_neD (α := List Pr) hu (dx_lst (lx_cons (dx_callE A.pair (hr.mono (by decide)) (ax_cons (dx_methE T.O.cl A.over (hr.mono (by decide)) (dx_var 3 k1) (ax_cons (dx_nmR (dx_var 4 k2)) ax_nil) ⟨rk, qk, hz⟩) ax_nil) trivial) (lx_cons (dx_callE A.pair (hr.mono (by decide)) (ax_cons (dx_methKE T.O.cl A.overK (hr.mono (by decide)) (dx_var 3 k1) (kx_cons (dx_nmR (dx_var 4 k2)) kx_nil) ⟨rk, qk, hz⟩ rfl) ax_nil) trivial) lx_nil)) (by show 2 ≤ 100000; decide))
      (dx_rep (dx_lst (lx_cons (dx_callE A.ovr hr2 (ax_cons (dx_var 5 k3) (ax_cons (dx_var 6 k4) ax_nil)) ⟨⟨z1, z2⟩, hz⟩) lx_nil) (by show 1 ≤ 100000; decide)) dx_int (by decide) (by decide) (by show 1 ≤ 1000; decide))) (neR rfl))
  have k1 := Dat.up u7 k1
  have k2 := Dat.up u7 k2
  have k3 := Dat.up u7 k3
  have k4 := Dat.up u7 k4
  have k5 := Dat.up u7 k5
  refine wss_ifF0 (Txw.tx (txw_and (k := !decide (n = 0)) (l := false) (tx_ne (dx_var (α := Int) (x := n) 2 rfl) dx_int) (fun hk => ?_) fun _ => txpw (W := W0) (σ := sf) (H := Hf C) (txw_and1 (tx_neD (α := Pr) hu (dx_callE A.pair (hr.mono (by decide)) (ax_cons (dx_methE T.O.cl A.over (hr.mono (by decide)) (dx_var 3 hf0) (ax_cons (dx_nmI (dx_var (α := Int) (x := 1) 2 rfl)) ax_nil) ⟨one_ok, ⟨md_one, md_one, (show (1 : Int) ≠ 0 by decide)⟩, (show (1 : Int) ≠ 0 by decide)⟩) ax_nil) trivial) (dx_callE A.ovr hr2 (ax_cons (dx_var 5 hf1) (ax_cons (dx_var 7 hf1) ax_nil)) ⟨⟨pk1, pk1⟩, (show (1 : Int) ≠ 0 by decide)⟩))))) i7 (Bool.and_false _) fun H8 u8 i8 => ?_
  · have hn0 : n ≠ 0 := by simpa using hk
    exact txw_and1 (Tx.to (tx_neD (α := Pr) hu (dx_callE A.pair (hr.mono (by decide)) (ax_cons (dx_methE T.O.cl A.over (hr.mono (by decide)) (dx_var 3 k1) (ax_cons (dx_nmI (dx_var (α := Int) (x := n) 2 rfl)) ax_nil) ⟨rk, nk, hn0⟩) ax_nil) trivial) (dx_callE A.ovr hr2 (ax_cons (dx_var 5 k3) (ax_cons (dx_var 7 k5) ax_nil)) ⟨⟨z1, zn⟩, hn0⟩)) (neR rfl))
  have k1 := Dat.up u8 k1
  have k2 := Dat.up u8 k2
  have k3 := Dat.up u8 k3
  have k4 := Dat.up u8 k4
  have k5 := Dat.up u8 k5
  refine wss_par 13 14 (dx_sub (dx_mul (dx_ix0 (dx_var 5 k3) dx_int) (dx_ix1 (dx_var 6 k4) dx_int) (Md.cm rk.1 qk.2.1)) (dx_mul (dx_ix0 (dx_var 6 k4) dx_int) (dx_ix1 (dx_var 5 k3) dx_int) (Md.cm qk.1 rk.2.1))) (dx_sub (dx_ix0 (dx_var 5 k3) dx_int) (dx_mul (dx_var (α := Int) (x := n) 2 rfl) (dx_ix1 (dx_var 5 k3) dx_int) (Md.cm (m120 ln) rk.2.1))) i8 (fun v14 v15 H9 sd bs u9 i9 h14 h15 e14 e15 => ?_) rfl sc25.nd
  subst e14; subst e15
  cases h14
  cases h15
  have k1 := Dat.up u9 k1
  have k2 := Dat.up u9 k2
  show Wss _ _ _ [some v, some v', some (.int n), some v1, some v2, some v3, some v4, some v5, some v8, some v9, some v10, some v11, some v13, some (.int (r.t * q.b - q.t * r.b)), some (.int (r.t - n * r.b)), none, none] H9
  refine wss_set (P := fun y => y = told r q n) 15 (dx_lst (lx_cons ((dx_methE T.O.cl A.below (hr.mono (by decide)) (dx_var 3 k1) (ax_cons (dx_nmR (dx_var 4 k2)) ax_nil) ⟨rk, qk'⟩).to rfl) (lx_cons ((dx_methE T.O.cl A.below (hr.mono (by decide)) (dx_var 4 k2) (ax_cons (dx_nmR (dx_var 3 k1)) ax_nil) ⟨qk, rk⟩).to rfl) (lx_cons ((dx_methE T.O.cl A.most (hr.mono (by decide)) (dx_var 3 k1) (ax_cons (dx_nmR (dx_var 4 k2)) ax_nil) ⟨rk, qk'⟩).to rfl)
    (lx_cons (dx_eqOwn A.eq (hr.mono (by decide)) (dx_var 3 k1) (dx_vdR (dx_var 4 k2)) rfl) (lx_cons (dx_neOwn A.eq (hr.mono (by decide)) (dx_var 3 k1) (dx_vdR (dx_var 4 k2)) rfl)
      (lx_cons ((dx_methKE T.O.cl A.belowK (hr.mono (by decide)) (dx_var 3 k1) (kx_cons (dx_nmI (dx_var (α := Int) (x := n) 2 rfl)) kx_nil) ⟨rk, nk⟩ rfl).to rfl) (lx_cons ((dx_methE T.O.cl A.most (hr.mono (by decide)) (dx_var 3 k1) (ax_cons (dx_nmI (dx_var (α := Int) (x := n) 2 rfl)) ax_nil) ⟨rk, nk⟩).to rfl) lx_nil))))))) (by show 7 ≤ 100000; decide)) i9 (fun v16 H10 tl u10 i10 h16 e16 => ?_) sc25.nd
  subst e16
  show Wss _ _ _ [some v, some v', some (.int n), some v1, some v2, some v3, some v4, some v5, some v8, some v9, some v10, some v11, some v13, some (.int (r.t * q.b - q.t * r.b)), some (.int (r.t - n * r.b)), some v16, none] H10
  refine wss_set (P := fun y => y = due (r.t * q.b - q.t * r.b) (r.t - n * r.b)) 12 (dx_lst (lx_cons (dx_lt (dx_var (α := Int) (x := r.t * q.b - q.t * r.b) 13 rfl) dx_int) (lx_cons (dx_gt (dx_var (α := Int) (x := r.t * q.b - q.t * r.b) 13 rfl) dx_int) (lx_cons (dx_le (dx_var (α := Int) (x := r.t * q.b - q.t * r.b) 13 rfl) dx_int) (lx_cons (dx_eq (dx_var (α := Int) (x := r.t * q.b - q.t * r.b) 13 rfl) dx_int) (lx_cons (dx_ne (dx_var (α := Int) (x := r.t * q.b - q.t * r.b) 13 rfl) dx_int) (lx_cons (dx_lt (dx_var (α := Int) (x := r.t - n * r.b) 14 rfl) dx_int) (lx_cons (dx_le (dx_var (α := Int) (x := r.t - n * r.b) 14 rfl) dx_int) lx_nil))))))) (by show 7 ≤ 100000; decide)) i10 (fun v17 H11 du u11 i11 h17 e17 => ?_) sc25.nd
  subst e17
  rw [← told_due rf.red qf.red n] at h17
  have k1 := Dat.up (u10.trans u11) k1
  have k16 := Dat.up u11 h16
  show Wss _ _ _ [some v, some v', some (.int n), some v1, some v2, some v3, some v4, some v5, some v8, some v9, some v10, some v11, some v17, some (.int (r.t * q.b - q.t * r.b)), some (.int (r.t - n * r.b)), some v16, none] H11
  refine wss_ret (P := fun y => y = true) (dx_and' (k := true) (l := true) (Dx.to (dx_eq (x := (PyData.list ((told r q n).map PyR.py)).shown) (y := (PyData.list ((told r q n).map PyR.py)).shown) ?_ ?_) (decide_eq_true rfl)) (dx_one (Dx.to (dx_eqD (α := List Bool) hu (dx_lst (lx_cons (dx_eqOwn A.eq (hr.mono (by decide)) (dx_var 3 k1) (dx_vdI (dx_var (α := Int) (x := n) 2 rfl)) rfl) (lx_cons (dx_eqIntOwn A.eq (hr.mono (by decide)) (dx_var (α := Int) (x := n) 2 rfl) (dx_var 3 k1)) (lx_cons (dx_eqOwn A.eq (hr.mono (by decide)) (dx_var 3 k1) (dx_vdS (dx_strOwn A.str (hr.mono (by decide)) (dx_var 3 k1) rf.tx T.str)) rfl) (lx_cons (dx_eqOwn A.eq (hr.mono (by decide)) (dx_var 3 k1) (dx_vdU dx_non) rfl) lx_nil)))) (by show 4 ≤ 100000; decide)) (dx_rep (dx_lst (lx_cons dx_bl lx_nil) (by show 1 ≤ 100000; decide)) dx_int (by decide) (by decide) (by show 1 ≤ 1000; decide))) (decide_eq_true rfl)))) i11
    fun u H12 y u12 i12 hy ey => k u H12 y (u1.trans (u2.trans (u3.trans (u4.trans (u5.trans (u6.trans (u7.trans (u8.trans (u9.trans (u10.trans (u11.trans u12))))))))))) i12 hy ey
  · exact dx_reprL (xs := told r q n) hG hu (by decide) (dx_var 15 k16) (bshow _) (bfit _ (show 7 ≤ 100 by decide)) T.repr
  · exact dx_reprL (xs := told r q n) hG hu (by decide) (dx_var 12 h17) (bshow _) (bfit _ (show 7 ≤ 100 by decide)) T.repr
end
end K11

set_option Elab.async false
set_option linter.all false
set_option maxRecDepth 100000
set_option maxHeartbeats 4000000
set_option exponentiation.threshold 20000
namespace K11
open PySem L2 Inn
variable {C : Addr}
/-! ### a sum over the product of the bottoms -/
def nN : List Pr → Int
  | [] => 0
  | p :: r => p.1 * dD r + nN r * p.2
where dD : List Pr → Int
  | [] => 1
  | p :: r => p.2 * dD r
abbrev dD := nN.dD
theorem dD_pos : ∀ {l : List Pr}, (∀ p ∈ l, 0 < p.2) → 0 < dD l
  | [], _ => by show (0 : Int) < 1; decide
  | p :: r, h => Int.mul_pos (h p List.mem_cons_self) (dD_pos fun q hq => h q (List.mem_cons_of_mem _ hq))
theorem dD_app (x : Int) : ∀ l : List Pr, dD (l ++ [(x, 1)]) = dD l
  | [] => rfl
  | p :: r => by
    show p.2 * dD (r ++ [(x, 1)]) = p.2 * dD r
    rw [dD_app x r]
theorem nN_app (x : Int) : ∀ l : List Pr, nN (l ++ [(x, 1)]) = nN l + x * dD l
  | [] => by show x * 1 + 0 * 1 = 0 + x * 1; omega
  | p :: r => by
    show p.1 * dD (r ++ [(x, 1)]) + nN (r ++ [(x, 1)]) * p.2 = p.1 * dD r + nN r * p.2 + x * (p.2 * dD r)
    rw [dD_app, nN_app x r, Int.add_mul]
    have e : x * dD r * p.2 = x * (p.2 * dD r) := by rw [Int.mul_assoc, Int.mul_comm (dD r)]
    rw [e]
    omega
/-- .. told by a common bottom -/
theorem com_sum (B : Int) : ∀ l : List Pr, (∀ p ∈ l, 0 < p.2 ∧ p.2 ∣ B) → (l.map fun p => p.1 * B.fdiv p.2).sum * dD l = nN l * B
  | [], _ => by show (0 : Int) * 1 = 0 * B; omega
  | p :: r, h => by
    have ih := com_sum B r fun q hq => h q (List.mem_cons_of_mem _ hq)
    obtain ⟨h0, hd⟩ := h p List.mem_cons_self
    have e : B.fdiv p.2 * p.2 = B := by
      rw [Int.fdiv_eq_ediv_of_dvd hd]
      exact Int.ediv_mul_cancel hd
    rw [List.map_cons, List.sum_cons]
    show (p.1 * B.fdiv p.2 + (r.map fun p => p.1 * B.fdiv p.2).sum) * (p.2 * dD r) = (p.1 * dD r + nN r * p.2) * B
    generalize (r.map fun p => p.1 * B.fdiv p.2).sum = S at *
    generalize B.fdiv p.2 = F at *
    generalize dD r = d at *
    generalize nN r = n at *
    generalize p.1 = x at *
    generalize p.2 = y at *
    rw [Int.add_mul, Int.add_mul]
    have e1 : x * F * (y * d) = x * d * B := by
      rw [← e]
      simp only [Int.mul_comm, Int.mul_left_comm, Int.mul_assoc]
    have e2 : S * (y * d) = n * y * B := by
      calc S * (y * d) = S * d * y := by simp only [Int.mul_comm, Int.mul_left_comm, Int.mul_assoc]
        _ = n * y * B := by rw [ih]; simp only [Int.mul_comm, Int.mul_left_comm, Int.mul_assoc]
    rw [e1, e2]
theorem fold_dvd : ∀ (l : List Pr) (acc : Int), acc ∣ l.foldl stB acc ∧ ∀ p ∈ l, p.2 ∣ l.foldl stB acc
  | [], acc => ⟨Int.dvd_refl _, fun _ h => nomatch h⟩
  | p :: r, acc => by
    obtain ⟨h1, h2⟩ := fold_dvd r (stB acc p)
    have d1 : acc ∣ stB acc p := by
      show acc ∣ ((Nat.lcm acc.natAbs p.2.natAbs : Nat) : Int)
      rw [← Int.natAbs_dvd, Int.natCast_dvd_natCast]
      exact Nat.dvd_lcm_left ..
    have d2 : p.2 ∣ stB acc p := by
      show p.2 ∣ ((Nat.lcm acc.natAbs p.2.natAbs : Nat) : Int)
      rw [← Int.natAbs_dvd, Int.natCast_dvd_natCast]
      exact Nat.dvd_lcm_right ..
    refine ⟨Int.dvd_trans d1 h1, fun q hq => ?_⟩
    rcases List.mem_cons.mp hq with e | hq
    · subst e
      exact Int.dvd_trans d2 h1
    · exact h2 q hq
theorem gTot_eq {l : List (Nm C)} (h : ClOk l) : gTot l = mk C (nN (prs l)) (dD (prs l)) := by
  have d0 : dD (prs l) ≠ 0 := Int.ne_of_gt (dD_pos h.pos)
  have b0 := (clB_ok h).1
  refine mk_eq (mk_red d0) (Int.ne_of_gt b0) ?_
  have x := mk_x (C := C) (t := nN (prs l)) d0
  have s := com_sum (clB (prs l)) (prs l) fun p hp => ⟨h.pos p hp, (fold_dvd (prs l) 1).2 p hp⟩
  show (mk C (nN (prs l)) (dD (prs l))).t * clB (prs l) = ((prs l).map fun p => p.1 * (clB (prs l)).fdiv p.2).sum * (mk C (nN (prs l)) (dD (prs l))).b
  generalize ((prs l).map fun p => p.1 * (clB (prs l)).fdiv p.2).sum = S at *
  generalize (mk C (nN (prs l)) (dD (prs l))).t = T at *
  generalize (mk C (nN (prs l)) (dD (prs l))).b = Bo at *
  generalize clB (prs l) = B at *
  generalize nN (prs l) = n at *
  generalize dD (prs l) = d at *
  refine Int.eq_of_mul_eq_mul_right d0 ?_
  calc T * B * d = (T * d) * B := by simp only [Int.mul_comm, Int.mul_left_comm, Int.mul_assoc]
    _ = (n * B) * Bo := by rw [x]; simp only [Int.mul_comm, Int.mul_left_comm, Int.mul_assoc]
    _ = S * Bo * d := by rw [← s]; simp only [Int.mul_comm, Int.mul_left_comm, Int.mul_assoc]
/-! ### the law's own sum -/
def stT (acc : Pr) (p : Pr) : Pr := plusP acc (lowP p.1 p.2)
/-- after some pairs: the sum so far stands for n / d -/
theorem stT_x {acc p : Pr} {n d : Int} (ha : 0 < acc.2) (hd : 0 < d) (hp : p.2 ≠ 0) (h : acc.1 * d = n * acc.2) :
    let q := pr (mk C p.1 p.2)
    0 < (stT acc p).2 ∧ (stT acc p).1 * (d * q.2) = (n * q.2 + q.1 * d) * (stT acc p).2 := by
  intro q
  have hq : 0 < q.2 := (mk_red (C := C) hp).1
  have hb : acc.2 * q.2 ≠ 0 := Int.mul_ne_zero (Int.ne_of_gt ha) (Int.ne_of_gt hq)
  have x := mk_x (C := C) (t := acc.1 * q.2 + q.1 * acc.2) hb
  have r := mk_red (C := C) (t := acc.1 * q.2 + q.1 * acc.2) hb
  show 0 < (mk C (acc.1 * q.2 + q.1 * acc.2) (acc.2 * q.2)).b ∧ (mk C (acc.1 * q.2 + q.1 * acc.2) (acc.2 * q.2)).t * (d * q.2) = (n * q.2 + q.1 * d) * (mk C (acc.1 * q.2 + q.1 * acc.2) (acc.2 * q.2)).b
  refine ⟨r.1, ?_⟩
  clear r
  generalize (mk C (acc.1 * q.2 + q.1 * acc.2) (acc.2 * q.2)).t = T at *
  generalize (mk C (acc.1 * q.2 + q.1 * acc.2) (acc.2 * q.2)).b = B at *
  generalize q.1 = x1 at *
  generalize q.2 = y1 at *
  generalize acc.1 = a1 at *
  generalize acc.2 = a2 at *
  refine Int.eq_of_mul_eq_mul_right (Int.ne_of_gt ha) ?_
  calc T * (d * y1) * a2 = T * (a2 * y1) * d := by simp only [Int.mul_comm, Int.mul_left_comm, Int.mul_assoc]
    _ = (a1 * y1 + x1 * a2) * B * d := by rw [x]
    _ = (a1 * d) * (y1 * B) + x1 * d * B * a2 := by
      rw [Int.add_mul, Int.add_mul]
      simp only [Int.mul_comm, Int.mul_left_comm, Int.mul_assoc]
    _ = (n * a2) * (y1 * B) + x1 * d * B * a2 := by rw [h]
    _ = (n * y1 + x1 * d) * B * a2 := by
      rw [Int.add_mul, Int.add_mul]
      simp only [Int.mul_comm, Int.mul_left_comm, Int.mul_assoc]
def ls (C : Addr) (l : List Pr) : List Pr := l.map fun p => pr (mk C p.1 p.2)
theorem fold_x : ∀ (l : List Pr) (acc : Pr) (n d : Int), (∀ p ∈ l, p.2 ≠ 0) → 0 < acc.2 → 0 < d → acc.1 * d = n * acc.2 →
    0 < (l.foldl stT acc).2 ∧ (l.foldl stT acc).1 * (d * dD (ls C l)) = (n * dD (ls C l) + nN (ls C l) * d) * (l.foldl stT acc).2
  | [], acc, n, d, _, ha, _, h => ⟨ha, by show acc.1 * (d * 1) = (n * 1 + 0 * d) * acc.2; rw [Int.mul_one, Int.mul_one, Int.zero_mul, Int.add_zero]; exact h⟩
  | p :: r, acc, n, d, hl, ha, hd, h => by
    have hp := hl p List.mem_cons_self
    obtain ⟨h1, h2⟩ := stT_x (C := C) ha hd hp h
    have hq : 0 < (pr (mk C p.1 p.2)).2 := (mk_red (C := C) hp).1
    obtain ⟨h3, h4⟩ := fold_x r (stT acc p) _ _ (fun q hq => hl q (List.mem_cons_of_mem _ hq)) h1 (Int.mul_pos hd hq) h2
    refine ⟨h3, ?_⟩
    show (r.foldl stT (stT acc p)).1 * (d * ((pr (mk C p.1 p.2)).2 * dD (ls C r))) = (n * ((pr (mk C p.1 p.2)).2 * dD (ls C r)) + ((pr (mk C p.1 p.2)).1 * dD (ls C r) + nN (ls C r) * (pr (mk C p.1 p.2)).2) * d) * (r.foldl stT (stT acc p)).2
    generalize (r.foldl stT (stT acc p)).1 = T at *
    generalize (r.foldl stT (stT acc p)).2 = B at *
    generalize (pr (mk C p.1 p.2)).1 = x at *
    generalize (pr (mk C p.1 p.2)).2 = y at *
    generalize dD (ls C r) = e at *
    generalize nN (ls C r) = m at *
    rw [show d * (y * e) = d * y * e from (Int.mul_assoc ..).symm, h4]
    refine congrArg (· * B) ?_
    rw [Int.add_mul, Int.add_mul]
    have e1 : n * y * e = n * (y * e) := Int.mul_assoc ..
    have e2 : x * d * e = x * e * d := by simp only [Int.mul_comm, Int.mul_left_comm, Int.mul_assoc]
    have e3 : m * (d * y) = m * y * d := by simp only [Int.mul_comm, Int.mul_left_comm, Int.mul_assoc]
    rw [e1, e2, e3]
    omega
theorem stT_red (acc p : Pr) (ha : 0 < acc.2) (hp : p.2 ≠ 0) : Red (⟨(stT acc p).1, (stT acc p).2⟩ : Rt C) := by
  have hq : 0 < (pr (mk C p.1 p.2)).2 := (mk_red (C := C) hp).1
  exact mk_red (C := C) (Int.mul_ne_zero (Int.ne_of_gt ha) (Int.ne_of_gt hq))
theorem fold_red : ∀ (l : List Pr) (acc : Pr), (∀ p ∈ l, p.2 ≠ 0) → 0 < acc.2 → Red (⟨acc.1, acc.2⟩ : Rt C) → Red (⟨(l.foldl stT acc).1, (l.foldl stT acc).2⟩ : Rt C)
  | [], _, _, _, h => h
  | p :: r, acc, hl, ha, _ => by
    have h := stT_red (C := C) acc p ha (hl p List.mem_cons_self)
    exact fold_red r (stT acc p) (fun q hq => hl q (List.mem_cons_of_mem _ hq)) h.1 h
/-- what is given to the total -/
def given (C : Addr) (l : List Pr) : List (Nm C) := (l.map fun p => Nm.r (mk C p.1 p.2)) ++ [.i 7]
theorem prs_given (l : List Pr) : prs (given C l) = ls C l ++ [(7, 1)] := by
  unfold prs given ls
  rw [List.map_append, List.map_map]
  rfl
theorem total_eq {l : List Pr} (hl : ∀ p ∈ l, p.2 ≠ 0) (ok : ClOk (given C l)) : pr (gTot (given C l)) = l.foldl stT (7, 1) := by
  have r7 : Red (⟨7, 1⟩ : Rt C) := ⟨by show (0 : Int) < 1; decide, by show Int.gcd 7 1 = 1; decide⟩
  have hr := fold_red (C := C) l (7, 1) hl (by show (0 : Int) < 1; decide) r7
  obtain ⟨h1, h2⟩ := fold_x (C := C) l (7, 1) 7 1 hl (by show (0 : Int) < 1; decide) (by decide) (by show (7 : Int) * 1 = 7 * 1; decide)
  have hpos : 0 < dD (ls C l) := dD_pos fun p hp => by
    obtain ⟨q, hq, rfl⟩ := List.mem_map.mp hp
    exact (mk_red (C := C) (hl q hq)).1
  rw [gTot_eq ok, prs_given, nN_app, dD_app, mk_eq hr (Int.ne_of_gt hpos)]
  · rfl
  · show (l.foldl stT (7, 1)).1 * dD (ls C l) = (nN (ls C l) + 7 * dD (ls C l)) * (l.foldl stT (7, 1)).2
    rw [Int.one_mul, Int.mul_one] at h2
    rw [h2, Int.add_comm]
/-! ### bounds -/
structure AccOk (i : Nat) (p : Pr) : Prop where
  t : p.1.natAbs ≤ 2 ^ (3 + 121 * i)
  b : p.2.natAbs ≤ 2 ^ (3 + 121 * i)
  n : 0 < p.2
theorem acc0 : AccOk 0 (7, 1) := ⟨by decide, by decide, by show (0 : Int) < 1; decide⟩
theorem acc_s {i : Nat} {acc p : Pr} (h : AccOk i acc) (hp : RawOk p) : AccOk (i + 1) (stT acc p) := by
  have f := rf_of (C := 0) hp
  have hb := f.red.1
  have e : (2 : Nat) ^ (3 + 121 * (i + 1)) = 2 ^ (3 + 121 * i) * 2 ^ 120 * 2 := by
    rw [← Nat.pow_add, ← Nat.pow_succ]
    congr 1
  have m1 : ∀ {x y : Int}, x.natAbs ≤ 2 ^ (3 + 121 * i) → y.natAbs < 2 ^ 120 → (x * y).natAbs ≤ 2 ^ (3 + 121 * i) * 2 ^ 120 := fun hx hy => by
    rw [Int.natAbs_mul]
    exact Nat.mul_le_mul hx (Nat.le_of_lt hy)
  have t1 := m1 h.t f.b
  have t2 := m1 h.b f.t
  have t3 := m1 h.b f.b
  have nb : acc.2 * (mk 0 p.1 p.2).b ≠ 0 := Int.mul_ne_zero (Int.ne_of_gt h.n) (Int.ne_of_gt hb)
  refine ⟨?_, ?_, (mk_red (C := 0) nb).1⟩
  · refine Nat.le_trans (mk_tle (C := 0) (acc.1 * (mk 0 p.1 p.2).b + (mk 0 p.1 p.2).t * acc.2) (acc.2 * (mk 0 p.1 p.2).b)) ?_
    rw [e]
    have t2' : ((mk 0 p.1 p.2).t * acc.2).natAbs ≤ 2 ^ (3 + 121 * i) * 2 ^ 120 := by rw [Int.mul_comm]; exact t2
    have := Int.natAbs_add_le (acc.1 * (mk 0 p.1 p.2).b) ((mk 0 p.1 p.2).t * acc.2)
    generalize (2 : Nat) ^ (3 + 121 * i) * 2 ^ 120 = z at *
    omega
  · refine Nat.le_trans (mk_ble (C := 0) (acc.1 * (mk 0 p.1 p.2).b + (mk 0 p.1 p.2).t * acc.2) (acc.2 * (mk 0 p.1 p.2).b)) ?_
    rw [e]
    generalize (2 : Nat) ^ (3 + 121 * i) * 2 ^ 120 = z at *
    omega
theorem AccOk.pk {i : Nat} {p : Pr} (h : AccOk i p) (hi : i ≤ 20) : pk p := by
  have e : (2 : Nat) ^ (3 + 121 * i) < 2 ^ 3000 := Nat.pow_lt_pow_right (by decide) (by omega)
  exact ⟨Nat.lt_of_le_of_lt h.t e, Nat.lt_of_le_of_lt h.b e, Int.ne_of_gt h.n⟩
theorem pB_pow : ∀ l : List Pr, (∀ p ∈ l, p.2.natAbs ≤ 2 ^ 120) → pB l ≤ (2 ^ 120) ^ l.length
  | [], _ => Nat.le_refl _
  | p :: r, h => by
    show p.2.natAbs * pB r ≤ (2 ^ 120) ^ (r.length + 1)
    rw [Nat.pow_succ, Nat.mul_comm]
    exact Nat.mul_le_mul (pB_pow r fun q hq => h q (List.mem_cons_of_mem _ hq)) (h p List.mem_cons_self)
theorem given_ok {l : List Pr} (h : ∀ p ∈ l, RawOk p) (hl : l.length ≤ 10) : ClOk (given C l) := by
  have all : ∀ n ∈ given C l, n.t.natAbs < 2 ^ 120 ∧ n.b.natAbs < 2 ^ 120 ∧ 0 < n.b := fun n hn => by
    rcases List.mem_append.mp hn with hn | hn
    · obtain ⟨p, hp, rfl⟩ := List.mem_map.mp hn
      have f := rf_of (C := C) (h p hp)
      exact ⟨f.t, f.b, f.red.1⟩
    · obtain rfl := List.mem_singleton.mp hn
      exact ⟨by show (7 : Int).natAbs < _; decide, by show (1 : Int).natAbs < _; decide, by show (0 : Int) < 1; decide⟩
  have len : (given C l).length ≤ 11 := by
    unfold given
    rw [List.length_append, List.length_map]
    show l.length + 1 ≤ 11
    omega
  refine ⟨Nat.le_trans len (by decide), fun n hn => ⟨m120 (all n hn).1, (all n hn).2.2⟩, ?_⟩
  have z := pB_pow (prs (given C l)) fun p hp => by
    obtain ⟨n, hn, rfl⟩ := List.mem_map.mp hp
    exact Nat.le_of_lt (all n hn).2.1
  have zl : (prs (given C l)).length ≤ 11 := by
    unfold prs
    rw [List.length_map]
    exact len
  refine Nat.lt_of_le_of_lt z ?_
  rw [← Nat.pow_mul]
  exact Nat.pow_lt_pow_right (by decide) (by omega)
end K11

set_option Elab.async false
set_option linter.all false
set_option maxRecDepth 100000
set_option maxHeartbeats 4000000
set_option exponentiation.threshold 20000
namespace K11
open PySem L2 Inn
open Dat (Is)
section
variable {P : Program} {w : World} {K : PySem.W.Frag} {mg : Str → Option Value} {base : Heap} {f C : Addr} {fd : FuncData}
theorem axImp {A : Type} [DArgs A] {X : Cx} {W : Wld} {es : List Expr} {σ : L2.St} {H : Hp} {P R : A → Prop} (h : Ax X W es σ H P) (i : ∀ a, P a → R a) : Ax X W es σ H R :=
  let ⟨ta, pa, ev⟩ := h
  ⟨ta, pa, fun H1 u hI Q q => ev H1 u hI Q fun vs H2 a u2 i2 ha pa => q vs H2 a u2 i2 ha (i a pa)⟩
theorem all_true {α : Type} {R : α → Bool → Prop} {xs : List α} {ys : List Bool} (h : Mapd R xs ys) (hr : ∀ x y, R x y → y = true) : ys.all id = true := by
  induction h with
  | nil => rfl
  | snoc h r ih =>
    rw [List.all_append, ih, hr _ _ r]
    rfl
theorem shown_len {B : Nat} (ds : List PyData) (h : ∀ d ∈ ds, d.shown.length ≤ B) : (PyData.list ds).shown.length ≤ 2 + ds.length * (B + 2) := by
  rw [PyData.shown]
  unfold listText
  rw [Str.length_append, shownAll_map]
  have e := textFrom_le B (ds.map PyData.shown) 0 "[" fun t ht => by
    obtain ⟨d, hd, rfl⟩ := List.mem_map.mp ht
    exact h d hd
  rw [List.length_map] at e
  have e1 : (Str.ofString "[").length = 1 := rfl
  have e2 : (Str.ofString "]").length = 1 := rfl
  omega
theorem bbshow : ∀ bs : List (List Bool), PyData.showableAll (bs.map PyR.py) = true
  | [] => rfl
  | b :: r => by show (PyData.showableAll (b.map PyR.py) && _) = true; rw [bbshow r, bshow b]; rfl
theorem bbfit (bs : List (List Bool)) (h : bs.length ≤ 20) (hb : ∀ b ∈ bs, b.length ≤ 3) : (PyData.list (bs.map PyR.py)).shown.length ≤ sizeLine := by
  refine shown_fits (B := 6000) _ (fun d hd => ?_) (by rw [List.length_map]; exact Nat.le_trans (Nat.mul_le_mul_right _ h) (by decide))
  obtain ⟨b, hbm, rfl⟩ := List.mem_map.mp hd
  show (PyData.list (b.map PyR.py)).shown.length ≤ 6000
  refine Nat.le_trans (shown_len (B := 1921) _ fun d hd => ?_) ?_
  · obtain ⟨b, _, rfl⟩ := List.mem_map.mp hd
    exact shown_bool b
  · rw [List.length_map]
    have := hb b hbm
    have := Nat.mul_le_mul_right (1921 + 2) this
    omega
theorem sc26 : FnScope ["_law_pot_here", "_law_raws", "_law_turn", "_law_raw_here", "_law_total", "_law_given", "_law_found", "_law_values", "_law_value", "_law_one"] ["_law_pot_here"] (defScope (K11.top 26)) := ⟨rfl, rfl, rfl, by decide +kernel, rfl, by decide +kernel, by decide +kernel⟩
/-- all with the law's own long defs -/
structure All2 (P : Program) (w : World) (K : PySem.W.Frag) (mg : Str → Option Value) (base : Heap) (C : Addr) : Prop extends All P w K mg base C where
  raw : Def P w K mg base 3 "_law_raw" ["_law_pot_here"] (SpF (fun _ : Cns Pot Nil => True) fun _ y => RawOk0 y)
  one : DefG P w K mg base 9 "_law_one_right" ["_law_raw_here"] (SpE (fun a : Cns Pr Nil => RawOk a.h) fun _ => true)
  two : DefG P w K mg base 9 "_law_two_right" ["_law_raw_here", "_law_other", "_law_number"] (SpE okTwo fun _ => true)
theorem raw3 {p : Pr} (h1 : p.1.natAbs < 2 ^ 110) (h2 : p.2.natAbs < 2 ^ 110) (h : p.2 ≠ 0) : RawOk (p.1 * 3, p.2 * 3) := by
  have e : (2 : Nat) ^ 110 * 4 ≤ 2 ^ 120 := by decide
  refine ⟨by show (p.1 * 3).natAbs < 2 ^ 120; omega, by show (p.2 * 3).natAbs < 2 ^ 120; omega, by show p.2 * 3 ≠ 0; omega⟩

theorem ok_right (F : Fun K "_law_right" "_law_right" (K11.top 26) f fd) (A : All2 P w K mg base C) : FnG P w K mg base 10 f fd ["_law_pot_here"] (SpE (fun _ : Cns Pot Nil => True) fun _ => true) := by
  refine fnG_body F sc26 rfl fun cdv A' outer s H W vs ⟨x, ⟨⟩⟩ Q hG hr hargs hI hp k => ?_
  obtain ⟨v, _, rfl, hv, rfl⟩ := hargs
  have hv : ∀ {H}, Is W H v x := fun {_} => hv
  have hu := hr.units
  have T := A.T
  refine wss_newL 1 (fun p hpn => ?_) sc26.nd
  have nM : ¬ W.M p := not_M hI hpn
  show Wss _ _ _ [some v, some (.ref p), none, none, none, none, none, none, none, none] _
  have i0 : (Wg W p []).I (upd H p (.lst [])) := ⟨I_new hI hpn, upd_same⟩
  -- the raw ones
  refine wss_forRv (X := (cxOf CX0 P w K mg base ["_law_pot_here", "_law_raws", "_law_turn", "_law_raw_here", "_law_total", "_law_given", "_law_found", "_law_values", "_law_value", "_law_one"] "_law_right" (defScope (K11.top 26)) f cdv A' outer s H E0).nox) 2 (W := Wg W p []) (n := 6) dx_int i0 (by decide) (by decide) (fun i σ' H' => Up W H H' ∧ W.I H' ∧ ∃ us xs tv, H' p = some (.lst us) ∧ Paired (fun u y => Is (Wg W p us) H' u y) us xs ∧ xs.length = i ∧ (∀ y ∈ xs, RawOk0 y) ∧ σ' = [some v, some (.ref p), tv, none, none, none, none, none, none, none]) sc26.nd PassesOwn.never rfl T.range
    (fun H1 u1 i1 => ⟨up_wg (up_at.trans u1) hpn, i1.1, [], ([] : List Pr), none, i1.2, .nil, rfl, (fun _ h => nomatch h), rfl⟩) (fun i σ' H' hi pv' => ?_) (fun σ' H' pv' => ?_)
  · obtain ⟨u1, i1, us, xs, tv, e1, h1, hl, hx, rfl⟩ := pv'
    show Wss _ _ _ [some v, some (.ref p), some (.int (i : Int)), none, none, none, none, none, none, none] _
    have i2 : (Wg W p us).I H' := ⟨i1, e1⟩
    refine wss_append (us := us) (W := Wg W p us) 1 rfl (dx_call A.raw (hr.mono (by decide)) (ax_cons (dx_var 0 (pot_wg (H := H') nM hv)) ax_nil) trivial) i2 (fun H1 u i => i.2) (by rw [paired_len h1]; omega) fun v3 H3 y u3 i3 h3 r3 => wss_nil ?_
    refine ⟨fun a o n e => ?_, I_mut i3.1 nM, us ++ [v3], xs ++ [y], _, upd_same, ?_, ?_, ?_, rfl⟩
    · have na := ne_of_none e hpn
      rw [upd_ne na]
      exact u3 a o (fun m => m.elim n na) (u1 a o n e)
    · exact paired_wk (W' := Wg W p us) wg_same (paired_app (paired_up (u3.trans up_at) h1) (.cons (Dat.up (W := Wg W p us) up_at h3) .nil))
    · rw [List.length_append, hl]
      rfl
    · intro z hz
      rcases List.mem_append.mp hz with hz | hz
      · exact hx z hz
      · obtain rfl := List.mem_singleton.mp hz
        exact r3
  · obtain ⟨u1, i1, us, xs, tv, e1, h1, hl, hx, rfl⟩ := pv'
    have hl : xs.length = 6 := hl
    have hR : Is W H' (.ref p) xs := ⟨p, us, rfl, nM, e1, paired_wk wg_sub h1⟩
    match xs, hl, hx, hR with
    | [x0, x1, x2, x3, x4, x5], _, hx, hR =>
    have r0 := hx x0 (by simp)
    have r1 := hx x1 (by simp)
    obtain ⟨t0, b0⟩ := x0
    obtain ⟨t1, b1⟩ := x1
    refine wss_set 1 (dx_cat (ys := [(t0 * 3, b0 * 3), (0, b1)]) (dx_var 1 hR) (dx_lst (lx_cons (dx_tup (dx_mul (dx_ix0 (dx_ixL (n := 0) (dx_var 1 hR) dx_int rfl) dx_int) dx_int (small_cm (Nat.lt_trans r0.t (by decide)) (by decide))) (dx_mul (dx_ix1 (dx_ixL (n := 0) (dx_var 1 hR) dx_int rfl) dx_int) dx_int (small_cm (Nat.lt_trans r0.b (by decide)) (by decide)))) (lx_cons (dx_tup dx_int (dx_ix1 (dx_ixL (n := 1) (dx_var 1 hR) dx_int rfl) dx_int)) lx_nil)) (by show 2 ≤ 100000; decide)) (by show 6 + 2 ≤ 100000; decide)) i1 (fun v2 H2 rs u2 i2 h2 e2 => ?_) sc26.nd
    have hrs : ∀ y ∈ rs, RawOk y := by
      intro y hy
      rw [e2] at hy
      rcases List.mem_append.mp hy with hy | hy
      · exact (hx y hy).raw
      · rcases List.mem_cons.mp hy with hy | hy
        · rw [hy]
          exact raw3 r0.t r0.b r0.n
        · obtain rfl := List.mem_singleton.mp hy
          exact ⟨by show (0 : Int).natAbs < _; decide, r1.raw.b, r1.n⟩
    have hrl : rs.length = 8 := by
      rw [e2]
      rfl
    clear e2 hR hx r0 r1
    have uA := u1.trans u2
    clear u1 u2
    show Wss _ _ _ [some v, some v2, tv, none, none, none, none, none, none, none] _
    refine wss_ifF0 (tx_not (k := true) (tx_val (Dx.to (dx_all (xs := rs.map fun _ => true) rfl (Dx.imp (dc_lc (R := fun (x : Pr) (y : Bool) => y = true) 3 (dx_var 1 h2) (by rw [hrl]; decide) (fun D H6 us u6 i6 hD j y v' H7 hy u7 i7 hv'' s' H' C' cl fp => ?_) rfl sc26.nd (blkOk_by (show blkC ["_law_pot_here", "_law_raws", "_law_turn", "_law_raw_here", "_law_total", "_law_given", "_law_found", "_law_values", "_law_value", "_law_one"] (defScope (K11.top 26)) _ _ = true by decide +kernel)) (fun _ _ _ _ _ => ?_)).dx fun ys h => h.eq) T.all) ?_))) i2 rfl fun H3 u3 i3 => ?_
    · exact (dx_callGE A.one hG (hr.mono (by decide)) (ax_cons (dx_var 3 hv'') ax_nil) (hrs y (List.mem_of_getElem? hy))).to rfl
    · exact pg_name (i := 3) sc26.nd rfl (Or.inl rfl)
    · simp
    have h2 := Dat.up u3 h2
    refine wss_forR 2 (n := 10) dx_int i3 (by decide) (by decide) (fun i σ' H' => ∃ tv, σ' = [some v, some v2, tv, none, none, none, none, none, none, none]) sc26.nd PassesOwn.never rfl T.range (fun H1 u1 i1 => ⟨_, rfl⟩) (fun i σ' H' hi u4 i4 pv' => ?_) (fun σ' H4 u4 i4 pv' => ?_)
    · obtain ⟨tv, rfl⟩ := pv'
      show Wss _ _ _ [some v, some v2, some (.int (i : Int)), none, none, none, none, none, none, none] _
      have k2 := Dat.up u4 h2
      refine wss_ifF0 (tx_not (k := true) (tx_val (Dx.imp (dx_callGP A.two hG (hr.mono (by decide)) (axImp (R := okTwo) (ax_consP (dx_call (x := (⟨x, ⟨rs, ⟨⟩⟩⟩ : Cns Pot (Cns (List Pr) Nil))) A.pickP (hr.mono (by decide)) (ax_cons (dx_var 0 hv) (ax_cons (dx_var 1 k2) ax_nil)) ⟨by show 0 < rs.length; rw [hrl]; decide, by show rs.length < 1000; rw [hrl]; decide⟩) (ax_consP (dx_call (x := (⟨x, ⟨rs, ⟨⟩⟩⟩ : Cns Pot (Cns (List Pr) Nil))) A.pickP (hr.mono (by decide)) (ax_cons (dx_var 0 hv) (ax_cons (dx_var 1 k2) ax_nil)) ⟨by show 0 < rs.length; rw [hrl]; decide, by show rs.length < 1000; rw [hrl]; decide⟩) (ax_consP (dx_subP (dx_call (x := (⟨x, ⟨(41 : Int), ⟨⟩⟩⟩ : Cns Pot (Cns Int Nil))) A.draw (hr.mono (by decide)) (ax_cons (dx_var 0 hv) (ax_cons dx_int ax_nil)) ⟨by show (0 : Int) < 41; decide, by show (41 : Int) < 2 ^ 30; decide⟩) dx_int) ax_nil))) fun a pa => ?_) fun a pa => pa) fun y hy => ?_))) i4 rfl fun H5 u5 i5 => wss_nil ⟨u4.trans u5, i5, _, rfl⟩
      · obtain ⟨m1, m2, ⟨i1, j1, ⟨b1, b2⟩, b3, b4⟩, _⟩ := pa
        have b2 : i1 < 41 := b2
        exact ⟨hrs _ m1, hrs _ m2, by rw [b4, b3]; omega⟩
      · obtain ⟨a, _, ha⟩ := hy
        exact ha
    obtain ⟨tv, rfl⟩ := pv'
    have h2 := Dat.up u4 h2
    refine wss_set (P := fun y : Pr => y = (7, 1)) 4 (dx_tup dx_int dx_int) i4 (fun v5 H5 tt u5 i5 h5 e5 => ?_) sc26.nd
    subst e5
    have h2 := Dat.up u5 h2
    show Wss _ _ _ [some v, some v2, tv, none, some v5, none, none, none, none, none] _
    refine wss_forL 3 (dx_var 1 h2) i5 (fun i σ' H' => AccOk i ((rs.take i).foldl stT (7, 1)) ∧ ∃ vt b, Is W H' vt ((rs.take i).foldl stT (7, 1)) ∧ σ' = [some v, some v2, tv, b, some vt, none, none, none, none, none]) sc26.nd PassesOwn.never rfl (fun H1 u1 i1 => ⟨acc0, v5, none, Dat.up u1 h5, rfl⟩) (fun H1 u1 i1 i y vy σ' H' hy u6 i6 hvy pv' => ?_) (fun σ' H6 u6 i6 pv' => ?_)
    · obtain ⟨ok, vt, b, ht, rfl⟩ := pv'
      show Wss _ _ _ [some v, some v2, tv, some vy, some vt, none, none, none, none, none] _
      have my := hrs y (List.mem_of_getElem? hy)
      have hi8 : i < 8 := by
        have := (List.getElem?_eq_some_iff.mp hy).1
        omega
      have e6 : (rs.take (i + 1)).foldl stT (7, 1) = stT ((rs.take i).foldl stT (7, 1)) y := by
        rw [take_more hy, List.foldl_append]
        rfl
      have fy := rf_of (C := C) my
      have ply : pk (lowP y.1 y.2) := fy.rk
      refine wss_set 4 (dx_callE A.plus (hr.mono (by decide)) (ax_cons (dx_var 4 ht) (ax_cons (dx_callE A.low (hr.mono (by decide)) (ax_cons (dx_ix0 (dx_var 3 hvy) dx_int) (ax_cons (dx_ix1 (dx_var 3 hvy) dx_int) ax_nil)) ⟨(m120 my.t).sm, (m120 my.b).sm, my.n⟩) ax_nil)) ⟨ok.pk (by omega), ply⟩) i6 (fun v7 H7 z u7 i7 h7 e7 => wss_nil ⟨u6.trans u7, i7, ?_, v7, some vy, ?_, rfl⟩) sc26.nd
      · rw [e6]
        exact acc_s ok my
      · rw [e6]
        have e7 : z = stT ((rs.take i).foldl stT (7, 1)) y := e7
        rw [← e7]
        exact h7
    obtain ⟨_, vt, b, ht, rfl⟩ := pv'
    rw [List.take_length] at ht
    have h2 := Dat.up u6 h2
    have uB := uA.trans (u3.trans (u4.trans (u5.trans u6)))
    clear uA u3 u4 u5 u6
    have gok : ClOk (given C rs) := given_ok hrs (by omega)
    have ok0 : ClOk ([] : List (Nm C)) := ⟨by show 0 ≤ 100; decide, (fun _ h => nomatch h), (show 1 < 2 ^ 3000 from Nat.pow_lt_pow_right (show 1 < 2 by decide) (show 0 < 3000 by decide))⟩
    have ok5 : ClOk ([.i 5, .i (-5)] : List (Nm C)) := ⟨by show 2 ≤ 100; decide, fun n hn => by
      rcases List.mem_cons.mp hn with e | hn
      · subst e
        exact ⟨m120 (show (5 : Int).natAbs < 2 ^ 120 by decide), by show (0 : Int) < 1; decide⟩
      · obtain rfl := List.mem_singleton.mp hn
        exact ⟨m120 (show (-5 : Int).natAbs < 2 ^ 120 by decide), by show (0 : Int) < 1; decide⟩, by show 1 * (1 * 1) < _; exact Nat.pow_lt_pow_right (show 1 < 2 by decide) (show 0 < 3000 by decide)⟩
    have hr6 := hr.mono (show 6 ≤ 9 by decide)
    refine wss_set (P := fun y : List (Nm C) => y = given C rs) 5 (dx_cat (Dx.imp (dc_lc (R := fun (x : Pr) (y : Nm C) => y = .r (mk C x.1 x.2)) 3 (dx_var 1 h2) (by rw [hrl]; decide) (fun D H7 us u7 i7 hD j y v' H8 hy u8 i8 hv'' s' H' C' cl fp => ?_) rfl sc26.nd (blkOk_by (show blkC ["_law_pot_here", "_law_raws", "_law_turn", "_law_raw_here", "_law_total", "_law_given", "_law_found", "_law_values", "_law_value", "_law_one"] (defScope (K11.top 26)) _ _ = true by decide +kernel)) (fun _ _ _ _ _ => ?_)).dx fun ys h => h.eq) (dx_lst (lx_cons (dx_nmI dx_int) lx_nil) (by show 1 ≤ 100000; decide)) (by rw [List.length_map, hrl]; show 8 + 1 ≤ 100000; decide)) i6 (fun v8 H7 gv u7 i7 h8 e8 => ?_) sc26.nd
    · have my := hrs y (List.mem_of_getElem? hy)
      exact dx_nmR (dx_make A.rat (hr.mono (by decide)) (dx_ix0 (dx_var 3 hv'') dx_int) (dx_ix1 (dx_var 3 hv'') dx_int) my.n (m120 my.t).sm (m120 my.b).sm)
    · exact pg_name (i := 3) sc26.nd rfl (Or.inl rfl)
    subst e8
    have ht := Dat.up u7 ht
    show Wss _ _ _ [some v, some v2, tv, b, some vt, some v8, none, none, none, none] _
    refine wss_set (P := fun y : List (Rt C) => y = [gTot (given C rs), gTot (given C rs), gTot (given C rs), gTot [], gTot [.i 5, .i (-5)]]) 6 (dx_lst (lx_cons ((dx_cmethE A.total hr6 (dx_cls T.mgC) (ax_cons (dx_sqL (dx_var 5 h8)) ax_nil) ⟨rfl, gok⟩).to rfl) (lx_cons ((dx_cmethE A.total hr6 (dx_cls T.mgC) (ax_cons (dx_tupleOf (dx_var 5 h8) T.tup) ax_nil) ⟨rfl, gok⟩).to rfl) (lx_cons ((dx_cmethKE A.total hr6 (dx_cls T.mgC) (kx_cons (dx_sqL (dx_var 5 h8)) kx_nil) ⟨rfl, gok⟩ rfl).to rfl)
      (lx_cons ((dx_cmethE A.total hr6 (dx_cls T.mgC) (ax_cons (dx_sqL (dx_lst lx_nil (by show 0 ≤ 100000; decide))) ax_nil) ⟨rfl, ok0⟩).to rfl) (lx_cons ((dx_cmethE A.total hr6 (dx_cls T.mgC) (ax_cons (dx_sqL (dx_lst (lx_cons (dx_nmI dx_int) (lx_cons (dx_nmI (dx_neg dx_int)) lx_nil)) (by show 2 ≤ 100000; decide))) ax_nil) ⟨rfl, ok5⟩).to rfl) lx_nil))))) (by show 5 ≤ 100000; decide)) i7 (fun v9 H8 fl u8 i8 h9 e9 => ?_) sc26.nd
    subst e9
    have ht := Dat.up u8 ht
    show Wss _ _ _ [some v, some v2, tv, b, some vt, some v8, some v9, none, none, none] _
    refine wss_ifF0 (Tx.to (tx_neD (α := List Pr) hu (Dx.imp (dc_lc (R := fun (x : Rt C) (y : Pr) => y = pr x) 8 (dx_var 6 h9) (by show 5 ≤ 40000; decide) (fun D H9 us u9 i9 hD j y v' H10 hy u10 i10 hv'' s' H' C' cl fp => ?_) rfl sc26.nd (blkOk_by (show blkC ["_law_pot_here", "_law_raws", "_law_turn", "_law_raw_here", "_law_total", "_law_given", "_law_found", "_law_values", "_law_value", "_law_one"] (defScope (K11.top 26)) _ _ = true by decide +kernel)) (fun _ _ _ _ _ => ?_)).dx fun ys h => h.eq) (dx_cat (dx_rep (dx_lst (lx_cons (dx_var 4 ht) lx_nil) (by show 1 ≤ 100000; decide)) dx_int (by decide) (by decide) (by show 1 ≤ 1000; decide)) (dx_rep (dx_lst (lx_cons (dx_tup dx_int dx_int) lx_nil) (by show 1 ≤ 100000; decide)) dx_int (by decide) (by decide) (by show 1 ≤ 1000; decide)) (by show 3 + 2 ≤ 100000; decide))) (neR ?_)) i8 rfl fun H9 u9 i9 => ?_
    · exact (dx_callE A.pair (hr.mono (by decide)) (ax_cons (dx_var 8 hv'') ax_nil) trivial).to rfl
    · exact pg_name (i := 8) sc26.nd rfl (Or.inl rfl)
    · show [pr (gTot (given C rs)), pr (gTot (given C rs)), pr (gTot (given C rs)), pr (gTot ([] : List (Nm C))), pr (gTot ([.i 5, .i (-5)] : List (Nm C)))] = [rs.foldl stT (7, 1), rs.foldl stT (7, 1), rs.foldl stT (7, 1), (0, 1), (0, 1)]
      rw [total_eq (fun p hp => (hrs p hp).n) gok]
      have r01 : Red (⟨0, 1⟩ : Rt C) := ⟨by show (0 : Int) < 1; decide, by show Int.gcd 0 1 = 1; decide⟩
      have e0 : pr (gTot ([] : List (Nm C))) = (0, 1) := by
        rw [gTot_eq ok0]
        show pr (mk C 0 1) = (0, 1)
        rw [mk_eq r01 (show (1 : Int) ≠ 0 by decide) (show (0 : Int) * 1 = 0 * 1 by decide)]
        rfl
      have e5 : pr (gTot ([.i 5, .i (-5)] : List (Nm C))) = (0, 1) := by
        rw [gTot_eq ok5]
        show pr (mk C (5 * (1 * 1) + (-5 * 1 + 0 * 1) * 1) (1 * (1 * 1))) = (0, 1)
        rw [mk_eq r01 (show (1 * (1 * 1) : Int) ≠ 0 by decide) (show (0 : Int) * (1 * (1 * 1)) = (5 * (1 * 1) + (-5 * 1 + 0 * 1) * 1) * 1 by decide)]
        rfl
      rw [e0, e5]
    refine wss_set (P := fun y : List (Vd C) => y = [.int 0, .int 1, .int (-1), .int (10 ^ (5 : Int).toNat), .bl true, .bl false, .non, .str "1", .lst, .tup, .dct]) 7 (dx_lst (lx_cons (dx_vdI dx_int) (lx_cons (dx_vdI dx_int) (lx_cons (dx_vdI (dx_neg dx_int)) (lx_cons (dx_vdI (dx_pow (i := 10) (j := 5) dx_int dx_int ⟨by decide, by decide, by decide⟩)) (lx_cons (dx_vdB dx_bl) (lx_cons (dx_vdB dx_bl) (lx_cons (dx_vdU dx_non) (lx_cons (dx_vdS dx_str) (lx_cons (dx_vdL (dx_lst (lx_cons dx_int lx_nil) (by show 1 ≤ 100000; decide))) (lx_cons (dx_vdT (dx_tup dx_int dx_int)) (lx_cons dx_vdD lx_nil))))))))))) (by show 11 ≤ 100000; decide)) i9 (fun v10 H10 vl u10 i10 h10 e10 => ?_) sc26.nd
    subst e10
    show Wss _ _ _ [some v, some v2, tv, b, some vt, some v8, some v9, some v10, none, none] _
    refine wss_setC 6 (dc_lc (R := fun (x : Vd C) (y : List Bool) => y = [isNumV x, isIntV x, isCountV x]) 9 (dx_var 7 h10) (by show 11 ≤ 40000; decide) (fun D H11 us u11 i11 hD j y v' H12 hy u12 i12 hv'' s' H' C' cl fp => ?_) rfl sc26.nd (blkOk_by (show blkC ["_law_pot_here", "_law_raws", "_law_turn", "_law_raw_here", "_law_total", "_law_given", "_law_found", "_law_values", "_law_value", "_law_one"] (defScope (K11.top 26)) _ _ = true by decide +kernel)) (fun _ _ _ _ _ => ?_)) i10 (fun v11 H11 fl u11 i11 h11 e11 => ?_)
    · exact dx_lst (lx_cons ((dx_callE A.num (hr.mono (by decide)) (ax_cons (dx_var 9 hv'') ax_nil) trivial).to rfl) (lx_cons ((dx_callKE A.intK (hr.mono (by decide)) (kx_cons (dx_var 9 hv'') kx_nil) trivial (fun _ => rfl) rfl).to rfl) (lx_cons ((dx_callE A.cnt (hr.mono (by decide)) (ax_cons (dx_var 9 hv'') ax_nil) trivial).to rfl) lx_nil))) (by show 3 ≤ 100000; decide)
    · exact pg_name (i := 9) sc26.nd rfl (Or.inl rfl)
    have e11 := e11.eq
    have e11 : fl = [[true, true, true], [true, true, true], [true, true, false], [true, true, true], [false, false, false], [false, false, false], [false, false, false], [false, false, false], [false, false, false], [false, false, false], [false, false, false]] := e11
    subst e11
    show Wss _ _ _ [some v, some v2, tv, b, some vt, some v8, some v11, some v10, none, none] _
    refine wss_ret (P := fun y => y = true) (Dx.to (dx_eq (x := (PyData.list (List.map PyR.py [[true, true, true], [true, true, true], [true, true, false], [true, true, true], [false, false, false], [false, false, false], [false, false, false], [false, false, false], [false, false, false], [false, false, false], [false, false, false]])).shown) (y := (PyData.list (List.map PyR.py [[true, true, true], [true, true, true], [true, true, false], [true, true, true], [false, false, false], [false, false, false], [false, false, false], [false, false, false], [false, false, false], [false, false, false], [false, false, false]])).shown) ?_ ?_) (decide_eq_true rfl)) i11
      fun u H12 y u12 i12 hy ey => k u H12 y (uB.trans (u7.trans (u8.trans (u9.trans (u10.trans (u11.trans u12)))))) i12 hy ey
    · exact dx_reprL (α := List Bool) hG hu (by decide) (dx_var 6 h11) (bbshow _) (bbfit _ (by decide) (by decide)) T.repr
    · refine dx_reprL (α := List Bool) hG hu (by decide) (Dx.to (dx_cat (dx_lst (lx_cons (dx_rep (dx_lst (lx_cons dx_bl lx_nil) (by show 1 ≤ 100000; decide)) dx_int (by decide) (by decide) (by show 1 ≤ 1000; decide)) (lx_cons (dx_rep (dx_lst (lx_cons dx_bl lx_nil) (by show 1 ≤ 100000; decide)) dx_int (by decide) (by decide) (by show 1 ≤ 1000; decide)) (lx_cons (dx_lst (lx_cons dx_bl (lx_cons dx_bl (lx_cons dx_bl lx_nil))) (by show 3 ≤ 100000; decide)) (lx_cons (dx_rep (dx_lst (lx_cons dx_bl lx_nil) (by show 1 ≤ 100000; decide)) dx_int (by decide) (by decide) (by show 1 ≤ 1000; decide)) lx_nil)))) (by show 4 ≤ 100000; decide))
        (dx_rep (dx_lst (lx_cons (dx_rep (dx_lst (lx_cons dx_bl lx_nil) (by show 1 ≤ 100000; decide)) dx_int (by decide) (by decide) (by show 1 ≤ 1000; decide)) lx_nil) (by show 1 ≤ 100000; decide)) dx_int (by decide) (by decide) (by show 1 ≤ 1000; decide)) (by show 4 + 7 ≤ 100000; decide)) rfl) (bbshow _) (bbfit _ (by decide) (by decide)) T.repr
end
end K11

set_option Elab.async false
set_option linter.all false
set_option maxRecDepth 100000
set_option maxHeartbeats 4000000
set_option exponentiation.threshold 20000
namespace K11
open PySem L2 Inn
open Dat (Is)
theorem pe_callG {X : Cx} {k : Nat} {nm : Str} {ps : List Str} {sp : Sp} {e : Expr} {es : List Expr} {p pos : Pos} {ta : TA} (B : DefG X.prog X.w X.K X.mg X.base k nm ps sp) (hG : X.A.guards = some []) (hr : Room k X.A) (pa : PA X (e :: es) ta) (hg : Gl X nm := by rfl) (hdb : (nm == ("__debug__" : Str)) = false := by decide)
    (he : starEach (e :: es) X.env = (false, eval e X.env) :: starEach es X.env := by rfl) (hpl : (backTo pos (starEach es X.env)).any (·.1) = false := by rfl) : PE X (.Call (.Name nm p) (e :: es) [] pos) (fun σ H Q => ta σ H fun vs H1 => sp vs H1 Q E0) := by
  obtain ⟨f, fd, F, hm, hk, hb⟩ := B.ex
  refine ⟨fun pins s σ H Q I h => wpAny_Call_Name_kw (ld_glob I hg hm ?_ hdb)⟩
  exact PySem.W.callWith_K (h₀ := X.base) I.ok.mod.kin hk (thn (pa.run pos pins s σ H _ I h) fun us s1 ⟨vs, H1, I1, rv, q⟩ => ⟨I1.kIn, run_G F hG hr hb I1 rv q⟩) he hpl
def spLaw (K : PySem.W.Frag) : Sp := fun vs H Q _ => ∃ (a : Addr) (ns : List Int), vs = [.ref a] ∧ SqL K H a (ns.map V.int) ∧ ∀ H', Q (.bl true) H'
section
variable {P : Program} {w : World} {K : PySem.W.Frag} {mg : Str → Option Value} {base : Heap} {f C : Addr} {fd : FuncData}
theorem sc27 : FnScope ["_law_script"] ["_law_script"] (defScope (K11.top 27)) := ⟨rfl, rfl, rfl, by decide +kernel, rfl, by decide +kernel, by decide +kernel⟩
abbrev DPot (P : Program) (w : World) (K : PySem.W.Frag) (mg : Str → Option Value) (base : Heap) : Prop := Def P w K mg base 1 "_law_pot" ["_law_script", "_law_k"] (SpF (fun a : Cns (Scr K) (Cns Int Nil) => a.t.h = 0) fun _ y => PotR y)
abbrev DRight (P : Program) (w : World) (K : PySem.W.Frag) (mg : Str → Option Value) (base : Heap) : Prop := DefG P w K mg base 10 "_law_right" ["_law_pot_here"] (SpE (fun _ : Cns Pot Nil => True) fun _ => true)
theorem wss_retG {X : Cx} {e : Expr} {nm : Str} {ps : List Str} {p pos rp : Pos} {σ : L2.St} {H : Hp} {D : Ends} {sts : List Stmt} (B : DefG X.prog X.w X.K X.mg X.base 10 nm ps (SpE (fun _ : Cns Pot Nil => True) fun _ => true)) (hG : X.A.guards = some []) (hr : Room 10 X.A)
    (ha : Dx X W0 e σ H (fun y : List Int => PotR y)) (k : ∀ (v : V) H1, D.rt (.bl true) H1) (hg : Gl X nm := by rfl) (hdb : (nm == ("__debug__" : Str)) = false := by decide) (he : starEach (e :: []) X.env = (false, eval e X.env) :: starEach [] X.env := by rfl) (hpl : (backTo pos (starEach [] X.env)).any (·.1) = false := by rfl) :
    Wss X (.Return (some (.Call (.Name nm p) [e] [] pos)) rp :: sts) D σ H := by
  obtain ⟨te, pe, ev⟩ := ha
  refine ⟨_, pss_cons (ps_ret (pe_callG B hG hr (pa_cons pe pa_nil he) hg hdb he hpl)) wss_all, ev H (Up.refl _) trivial _ fun v H1 y u1 i1 hy ry => ?_⟩
  obtain ⟨c, d, rfl, c0, d0, d1⟩ := ry
  obtain ⟨q, us, rfl, _, e1, h1⟩ := hy
  rw [ints_of h1] at e1
  refine ⟨Wp q, ⟨⟨q⟩, ⟨⟩⟩, ⟨_, [], rfl, ⟨rfl, pot_wp q⟩, rfl⟩, ⟨c, d, c0, d0, d1, e1⟩, trivial, fun u H' y' _ _ hy' ey => ?_⟩
  cases ey
  cases hy'
  exact k (.bl true) H'
theorem ok_law (F : Fun K "law" "law" (K11.top 27) f fd) (DP : DPot P w K mg base) (DR : DRight P w K mg base) : FnG P w K mg base 11 f fd ["_law_script"] (spLaw K) := by
  refine fnG_of F sc27 (fun vs H Q E ⟨a, ns, e, _⟩ => by rw [e]; rfl) fun cdv A outer s H vs Q hG hr ⟨a, ns, e, hS, k⟩ => ?_
  subst e
  have hv : Is W0 H (.ref a) (⟨ns⟩ : Scr K) := ⟨a, rfl, fun h => h, hS⟩
  refine wss_retG DR hG hr (Dx.imp (P := PotR) ?_ fun _ h => h) fun v H1 => k H1
  exact Dx.imp (dx_call (x := (⟨⟨ns⟩, ⟨(0 : Int), ⟨⟩⟩⟩ : Cns (Scr K) (Cns Int Nil))) DP (hr.mono (by decide)) (ax_cons (dx_var 0 hv) (ax_cons dx_int ax_nil)) rfl) fun _ h => h
end
end K11

set_option Elab.async false
set_option linter.all false
set_option maxRecDepth 100000
set_option maxHeartbeats 0
namespace K11
open PySem PySem.Spec PyProof.Rows L2 Inn
/-! ### what the head tells -/
def rc (K : PySem.W.Frag) : Addr := He.ga K "Ratio"
def hasRec (K : PySem.W.Frag) (p : Addr) : Bool := match PySem.W.recIn K p "property" with
  | some (.ref _ :: _) => true
  | _ => false
def facts (K : PySem.W.Frag) : List Bool := [
  He.eqO (PySem.W.nsIn K mainGlobals "isinstance") (some none),
  He.eqO (PySem.W.nsIn K mainGlobals "int") (some none),
  He.eqO (PySem.W.nsIn K mainGlobals "bool") (some none),
  He.eqO (PySem.W.nsIn K mainGlobals "abs") (some none),
  He.eqO (PySem.W.nsIn K mainGlobals "max") (some none),
  He.eqO (PySem.W.nsIn K mainGlobals "str") (some none),
  He.eqO (PySem.W.nsIn K mainGlobals "repr") (some none),
  He.eqO (PySem.W.nsIn K mainGlobals "len") (some none),
  He.eqO (PySem.W.nsIn K mainGlobals "sum") (some none),
  He.eqO (PySem.W.nsIn K mainGlobals "all") (some none),
  He.eqO (PySem.W.nsIn K mainGlobals "divmod") (some none),
  He.eqO (PySem.W.nsIn K mainGlobals "range") (some none),
  He.eqO (PySem.W.nsIn K mainGlobals "list") (some none),
  He.eqO (PySem.W.nsIn K mainGlobals "tuple") (some none),
  He.eqO (PySem.W.nsIn K mainGlobals "gcd") (some (some (.builtin "math.gcd"))),
  He.eqO (PySem.W.nsIn K mainGlobals "lcm") (some (some (.builtin "math.lcm"))),
  He.eqO (PySem.W.nsIn K mainGlobals "is_integer") (some (some (.ref (He.ga K "is_integer")))),
  He.eqO (PySem.W.nsIn K mainGlobals "is_count") (some (some (.ref (He.ga K "is_count")))),
  He.eqO (PySem.W.nsIn K mainGlobals "is_number") (some (some (.ref (He.ga K "is_number")))),
  He.eqO (PySem.W.nsIn K mainGlobals "need_number") (some (some (.ref (He.ga K "need_number")))),
  He.eqO (PySem.W.nsIn K mainGlobals "pair_of") (some (some (.ref (He.ga K "pair_of")))),
  He.eqO (PySem.W.nsIn K mainGlobals "cleared") (some (some (.ref (He.ga K "cleared")))),
  He.eqO (PySem.W.nsIn K mainGlobals "_law_pot") (some (some (.ref (He.ga K "_law_pot")))),
  He.eqO (PySem.W.nsIn K mainGlobals "_law_draw") (some (some (.ref (He.ga K "_law_draw")))),
  He.eqO (PySem.W.nsIn K mainGlobals "_law_pick") (some (some (.ref (He.ga K "_law_pick")))),
  He.eqO (PySem.W.nsIn K mainGlobals "_law_low") (some (some (.ref (He.ga K "_law_low")))),
  He.eqO (PySem.W.nsIn K mainGlobals "_law_plus") (some (some (.ref (He.ga K "_law_plus")))),
  He.eqO (PySem.W.nsIn K mainGlobals "_law_by") (some (some (.ref (He.ga K "_law_by")))),
  He.eqO (PySem.W.nsIn K mainGlobals "_law_over") (some (some (.ref (He.ga K "_law_over")))),
  He.eqO (PySem.W.nsIn K mainGlobals "_law_raw") (some (some (.ref (He.ga K "_law_raw")))),
  He.eqO (PySem.W.nsIn K mainGlobals "_law_pair") (some (some (.ref (He.ga K "_law_pair")))),
  He.eqO (PySem.W.nsIn K mainGlobals "_law_one_right") (some (some (.ref (He.ga K "_law_one_right")))),
  He.eqO (PySem.W.nsIn K mainGlobals "_law_two_right") (some (some (.ref (He.ga K "_law_two_right")))),
  He.eqO (PySem.W.nsIn K mainGlobals "_law_right") (some (some (.ref (He.ga K "_law_right")))),
  He.eqO (PySem.W.nsIn K mainGlobals "law") (some (some (.ref (He.ga K "law")))),
  He.eqO (PySem.W.nsIn K mainGlobals "Ratio") (some (some (.ref (rc K)))),
  PySem.W.plainGet K (rc K) Str.empty,
  PySem.W.hasDictIn K (rc K),
  PySem.W.plainOver K (rc K),
  He.eqO (PySem.W.findIn K (.ref (rc K)) "__setattr__") (some (some (.builtin "object.__setattr__"))),
  He.eqO (PySem.W.findIn K (.ref (rc K)) "__class__") (some (some (.builtin "object.__class__"))),
  He.eqO (PySem.W.specialIn K (.builtin "object.__class__") "__get__") (some (some (.builtin "getset_descriptor.__get__"))),
  decide (PySem.W.takesIn K (.builtin "object.__class__") = some true),
  decide (PySem.W.mroIn K (rc K) (.type "object") = some true),
  decide (PySem.W.kitOne K (.ref (rc K)) (.type "int") = some false),
  decide (PySem.W.kitOne K (.ref (rc K)) (.type "bool") = some false),
  decide (PySem.W.kitOne K (.ref (rc K)) (.type "list") = some false),
  decide (PySem.W.kitOne K (.ref (rc K)) (.type "tuple") = some false),
  decide (PySem.W.kitOne K (.type "int") (.ref (rc K)) = some false),
  decide (PySem.W.kitOne K (.type "bool") (.ref (rc K)) = some false),
  decide (PySem.W.kitOne K (.type "NoneType") (.ref (rc K)) = some false),
  decide (PySem.W.kitOne K (.type "str") (.ref (rc K)) = some false),
  decide (PySem.W.kitOne K (.type "list") (.ref (rc K)) = some false),
  decide (PySem.W.kitOne K (.type "tuple") (.ref (rc K)) = some false),
  decide (PySem.W.kitOne K (.type "dict") (.ref (rc K)) = some false),
  He.eqO (PySem.W.findIn K (.ref (rc K)) "_top") (some none),
  He.eqO (PySem.W.findIn K (.ref (rc K)) "_bottom") (some none),
  He.eqO (PySem.W.findIn K (.ref (rc K)) "__init__") (some (some (.ref (He.ma K (rc K) "__init__")))),
  PySem.W.isFn K (.ref (He.ma K (rc K) "__init__")),
  He.eqO (PySem.W.findIn K (.ref (rc K)) "__add__") (some (some (.ref (He.ma K (rc K) "__add__")))),
  PySem.W.isFn K (.ref (He.ma K (rc K) "__add__")),
  He.eqO (PySem.W.findIn K (.ref (rc K)) "__radd__") (some (some (.ref (He.ma K (rc K) "__radd__")))),
  PySem.W.isFn K (.ref (He.ma K (rc K) "__radd__")),
  He.eqO (PySem.W.findIn K (.ref (rc K)) "__sub__") (some (some (.ref (He.ma K (rc K) "__sub__")))),
  PySem.W.isFn K (.ref (He.ma K (rc K) "__sub__")),
  He.eqO (PySem.W.findIn K (.ref (rc K)) "__rsub__") (some (some (.ref (He.ma K (rc K) "__rsub__")))),
  PySem.W.isFn K (.ref (He.ma K (rc K) "__rsub__")),
  He.eqO (PySem.W.findIn K (.ref (rc K)) "__mul__") (some (some (.ref (He.ma K (rc K) "__mul__")))),
  PySem.W.isFn K (.ref (He.ma K (rc K) "__mul__")),
  He.eqO (PySem.W.findIn K (.ref (rc K)) "__rmul__") (some (some (.ref (He.ma K (rc K) "__rmul__")))),
  PySem.W.isFn K (.ref (He.ma K (rc K) "__rmul__")),
  He.eqO (PySem.W.findIn K (.ref (rc K)) "__neg__") (some (some (.ref (He.ma K (rc K) "__neg__")))),
  PySem.W.isFn K (.ref (He.ma K (rc K) "__neg__")),
  He.eqO (PySem.W.findIn K (.ref (rc K)) "over") (some (some (.ref (He.ma K (rc K) "over")))),
  PySem.W.isFn K (.ref (He.ma K (rc K) "over")),
  He.eqO (PySem.W.findIn K (.ref (rc K)) "size") (some (some (.ref (He.ma K (rc K) "size")))),
  PySem.W.isFn K (.ref (He.ma K (rc K) "size")),
  He.eqO (PySem.W.findIn K (.ref (rc K)) "is_below") (some (some (.ref (He.ma K (rc K) "is_below")))),
  PySem.W.isFn K (.ref (He.ma K (rc K) "is_below")),
  He.eqO (PySem.W.findIn K (.ref (rc K)) "is_at_most") (some (some (.ref (He.ma K (rc K) "is_at_most")))),
  PySem.W.isFn K (.ref (He.ma K (rc K) "is_at_most")),
  He.eqO (PySem.W.findIn K (.ref (rc K)) "__eq__") (some (some (.ref (He.ma K (rc K) "__eq__")))),
  PySem.W.isFn K (.ref (He.ma K (rc K) "__eq__")),
  He.eqO (PySem.W.findIn K (.ref (rc K)) "__str__") (some (some (.ref (He.ma K (rc K) "__str__")))),
  PySem.W.isFn K (.ref (He.ma K (rc K) "__str__")),
  He.eqO (PySem.W.findIn K (.ref (rc K)) "__repr__") (some (some (.ref (He.ma K (rc K) "__repr__")))),
  PySem.W.isFn K (.ref (He.ma K (rc K) "__repr__")),
  PySem.W.makesIn K (rc K),
  PySem.W.keepIn K (.ref (rc K)),
  He.eqO (PySem.W.findIn K (.ref (rc K)) "__ne__") (some (some (.builtin "object.__ne__"))),
  PySem.W.selfFirst K (rc K),
  decide (PySem.W.subIn K (.type "int") (.ref (rc K)) = some false),
  decide (PySem.W.subIn K (.type "NoneType") (.ref (rc K)) = some false),
  decide (PySem.W.subIn K (.type "str") (.ref (rc K)) = some false),
  decide (PySem.W.subIn K (.ref (rc K)) (.type "int") = some false),
  (PySem.W.findIn K (.type "int") "__add__").isSome,
  (PySem.W.findIn K (.type "int") "__radd__").isSome,
  (PySem.W.findIn K (.type "int") "__sub__").isSome,
  (PySem.W.findIn K (.type "int") "__rsub__").isSome,
  (PySem.W.findIn K (.type "int") "__mul__").isSome,
  (PySem.W.findIn K (.type "int") "__rmul__").isSome,
  He.eqO (PySem.W.findIn K (.ref (rc K)) "top") (some (some (.ref (He.ma K (rc K) "top")))),
  He.eqO (PySem.W.specialIn K (.ref (He.ma K (rc K) "top")) "__get__") (some (some (.builtin "property.__get__"))),
  decide (PySem.W.takesIn K (.ref (He.ma K (rc K) "top")) = some true),
  hasRec K (He.ma K (rc K) "top"),
  He.eqO (PySem.W.findIn K (.ref (rc K)) "bottom") (some (some (.ref (He.ma K (rc K) "bottom")))),
  He.eqO (PySem.W.specialIn K (.ref (He.ma K (rc K) "bottom")) "__get__") (some (some (.builtin "property.__get__"))),
  decide (PySem.W.takesIn K (.ref (He.ma K (rc K) "bottom")) = some true),
  hasRec K (He.ma K (rc K) "bottom"),
  He.eqO (PySem.W.findIn K (.ref (rc K)) "sign") (some (some (.ref (He.ma K (rc K) "sign")))),
  He.eqO (PySem.W.specialIn K (.ref (He.ma K (rc K) "sign")) "__get__") (some (some (.builtin "property.__get__"))),
  decide (PySem.W.takesIn K (.ref (He.ma K (rc K) "sign")) = some true),
  hasRec K (He.ma K (rc K) "sign"),
  He.eqO (PySem.W.findIn K (.ref (rc K)) "is_whole") (some (some (.ref (He.ma K (rc K) "is_whole")))),
  He.eqO (PySem.W.specialIn K (.ref (He.ma K (rc K) "is_whole")) "__get__") (some (some (.builtin "property.__get__"))),
  decide (PySem.W.takesIn K (.ref (He.ma K (rc K) "is_whole")) = some true),
  hasRec K (He.ma K (rc K) "is_whole"),
  PySem.W.readsIn K (rc K) (.type "type"),
  He.eqO (PySem.W.specialIn K (.ref (rc K)) "__getattribute__") (some (some (.builtin "type.__getattribute__"))),
  He5.wrapB K (rc K) "classmethod" "classmethod.__get__" "total",
  PySem.W.fnIn K (He5.wf K (rc K) "classmethod" "total")]

def okX (K : PySem.W.Frag) : Bool := (facts K).all id

def fn : List He5.DefA := [
  ⟨fun K => He.ga K "is_integer", "is_integer", "is_integer", defArgs (K11.top 2), defBody (K11.top 2), defScope (K11.top 2), [], []⟩,
  ⟨fun K => He.ga K "is_count", "is_count", "is_count", defArgs (K11.top 3), defBody (K11.top 3), defScope (K11.top 3), [], []⟩,
  ⟨fun K => He.ga K "is_number", "is_number", "is_number", defArgs (K11.top 10), defBody (K11.top 10), defScope (K11.top 10), [], []⟩,
  ⟨fun K => He.ga K "need_number", "need_number", "need_number", defArgs (K11.top 11), defBody (K11.top 11), defScope (K11.top 11), [], []⟩,
  ⟨fun K => He.ga K "pair_of", "pair_of", "pair_of", defArgs (K11.top 12), defBody (K11.top 12), defScope (K11.top 12), [], []⟩,
  ⟨fun K => He.ga K "cleared", "cleared", "cleared", defArgs (K11.top 13), defBody (K11.top 13), defScope (K11.top 13), [], []⟩,
  ⟨fun K => He.ga K "_law_pot", "_law_pot", "_law_pot", defArgs (K11.top 15), defBody (K11.top 15), defScope (K11.top 15), [], []⟩,
  ⟨fun K => He.ga K "_law_draw", "_law_draw", "_law_draw", defArgs (K11.top 16), defBody (K11.top 16), defScope (K11.top 16), [], []⟩,
  ⟨fun K => He.ga K "_law_pick", "_law_pick", "_law_pick", defArgs (K11.top 17), defBody (K11.top 17), defScope (K11.top 17), [], []⟩,
  ⟨fun K => He.ga K "_law_low", "_law_low", "_law_low", defArgs (K11.top 18), defBody (K11.top 18), defScope (K11.top 18), [], []⟩,
  ⟨fun K => He.ga K "_law_plus", "_law_plus", "_law_plus", defArgs (K11.top 19), defBody (K11.top 19), defScope (K11.top 19), [], []⟩,
  ⟨fun K => He.ga K "_law_by", "_law_by", "_law_by", defArgs (K11.top 20), defBody (K11.top 20), defScope (K11.top 20), [], []⟩,
  ⟨fun K => He.ga K "_law_over", "_law_over", "_law_over", defArgs (K11.top 21), defBody (K11.top 21), defScope (K11.top 21), [], []⟩,
  ⟨fun K => He.ga K "_law_raw", "_law_raw", "_law_raw", defArgs (K11.top 22), defBody (K11.top 22), defScope (K11.top 22), [], []⟩,
  ⟨fun K => He.ga K "_law_pair", "_law_pair", "_law_pair", defArgs (K11.top 23), defBody (K11.top 23), defScope (K11.top 23), [], []⟩,
  ⟨fun K => He.ga K "_law_one_right", "_law_one_right", "_law_one_right", defArgs (K11.top 24), defBody (K11.top 24), defScope (K11.top 24), [], []⟩,
  ⟨fun K => He.ga K "_law_two_right", "_law_two_right", "_law_two_right", defArgs (K11.top 25), defBody (K11.top 25), defScope (K11.top 25), [], []⟩,
  ⟨fun K => He.ga K "_law_right", "_law_right", "_law_right", defArgs (K11.top 26), defBody (K11.top 26), defScope (K11.top 26), [], []⟩,
  ⟨fun K => He.ga K "law", "law", "law", defArgs (K11.top 27), defBody (K11.top 27), defScope (K11.top 27), [], []⟩,
  ⟨fun K => He.ma K (rc K) "__init__", "__init__", "Ratio.__init__", defArgs (cm 0), defBody (cm 0), defScope (cm 0), [.int 1], []⟩,
  ⟨fun K => He.ma K (rc K) "__add__", "__add__", "Ratio.__add__", defArgs (cm 5), defBody (cm 5), defScope (cm 5), [], []⟩,
  ⟨fun K => He.ma K (rc K) "__radd__", "__radd__", "Ratio.__radd__", defArgs (cm 6), defBody (cm 6), defScope (cm 6), [], []⟩,
  ⟨fun K => He.ma K (rc K) "__sub__", "__sub__", "Ratio.__sub__", defArgs (cm 7), defBody (cm 7), defScope (cm 7), [], []⟩,
  ⟨fun K => He.ma K (rc K) "__rsub__", "__rsub__", "Ratio.__rsub__", defArgs (cm 8), defBody (cm 8), defScope (cm 8), [], []⟩,
  ⟨fun K => He.ma K (rc K) "__mul__", "__mul__", "Ratio.__mul__", defArgs (cm 9), defBody (cm 9), defScope (cm 9), [], []⟩,
  ⟨fun K => He.ma K (rc K) "__rmul__", "__rmul__", "Ratio.__rmul__", defArgs (cm 10), defBody (cm 10), defScope (cm 10), [], []⟩,
  ⟨fun K => He.ma K (rc K) "__neg__", "__neg__", "Ratio.__neg__", defArgs (cm 11), defBody (cm 11), defScope (cm 11), [], []⟩,
  ⟨fun K => He.ma K (rc K) "over", "over", "Ratio.over", defArgs (cm 12), defBody (cm 12), defScope (cm 12), [], []⟩,
  ⟨fun K => He.ma K (rc K) "size", "size", "Ratio.size", defArgs (cm 13), defBody (cm 13), defScope (cm 13), [], []⟩,
  ⟨fun K => He.ma K (rc K) "is_below", "is_below", "Ratio.is_below", defArgs (cm 14), defBody (cm 14), defScope (cm 14), [], []⟩,
  ⟨fun K => He.ma K (rc K) "is_at_most", "is_at_most", "Ratio.is_at_most", defArgs (cm 15), defBody (cm 15), defScope (cm 15), [], []⟩,
  ⟨fun K => He.ma K (rc K) "__eq__", "__eq__", "Ratio.__eq__", defArgs (cm 16), defBody (cm 16), defScope (cm 16), [], []⟩,
  ⟨fun K => He.ma K (rc K) "__str__", "__str__", "Ratio.__str__", defArgs (cm 17), defBody (cm 17), defScope (cm 17), [], []⟩,
  ⟨fun K => He.ma K (rc K) "__repr__", "__repr__", "Ratio.__repr__", defArgs (cm 18), defBody (cm 18), defScope (cm 18), [], []⟩,
  ⟨fun K => He5.wf K (rc K) "property" "top", "top", "Ratio.top", defArgs (cm 1), defBody (cm 1), defScope (cm 1), [], []⟩,
  ⟨fun K => He5.wf K (rc K) "property" "bottom", "bottom", "Ratio.bottom", defArgs (cm 2), defBody (cm 2), defScope (cm 2), [], []⟩,
  ⟨fun K => He5.wf K (rc K) "property" "sign", "sign", "Ratio.sign", defArgs (cm 3), defBody (cm 3), defScope (cm 3), [], []⟩,
  ⟨fun K => He5.wf K (rc K) "property" "is_whole", "is_whole", "Ratio.is_whole", defArgs (cm 4), defBody (cm 4), defScope (cm 4), [], []⟩,
  ⟨fun K => He5.wf K (rc K) "classmethod" "total", "total", "Ratio.total", defArgs (cm 19), defBody (cm 19), defScope (cm 19), [], []⟩]

theorem okX.at {K : PySem.W.Frag} (h : okX K = true) (i : Nat) {b : Bool} (e : (facts K)[i]? = some b := by rfl) : b = true := List.all_eq_true.mp h b (List.mem_of_getElem? e)
abbrev R : PySem.W.OpenRow := PySem.W.OpenLaw.row PySem.Challenge.rw_innerfractions_k11_ratios_reckoned
abbrev hk : PySem.W.Hook := hookX 7 okX fn
def ob (s : PySem.W.SharedT) : He.AlD := atX 7 okX fn (HandSHeadRun.getT s)
theorem ob_eq (s : PySem.W.SharedT) : ob s = hk.obs s.abs := atX_eq (HandSHeadRun.getT_eq s)
abbrev names : List Str := ["__name__", "is_integer", "is_count", "LetterError", "InvalidNumber", "DividedByZero", "Ratio", "is_number", "need_number", "pair_of", "cleared", "_law_pot", "_law_draw", "_law_pick", "_law_low", "_law_plus", "_law_by", "_law_over", "_law_raw", "_law_pair", "_law_one_right", "_law_two_right", "_law_right"]
theorem run (w : World) : HandSHeadRun.RunEqI R (PySem.W.view R.prog [0, 27]) hk ob 6000 names w := by
  delta HandSHeadRun.RunEqI
  kernel_rfl
end K11

set_option Elab.async false
set_option linter.all false
set_option maxRecDepth 100000
set_option maxHeartbeats 4000000
set_option exponentiation.threshold 20000
namespace K11
open PySem PySem.Spec PyProof.Rows L2 Inn
section
variable {P : Program} {w : World} {K : PySem.W.Frag} {mg : Str → Option Value} {hp : Heap} {base : Heap}
theorem own_of (h : okX K = true) : Own K (rc K) where
  cl := ⟨(okX.at h 36), (okX.at h 37), (okX.at h 38), He.eqO_ok (okX.at h 39)⟩
  ha := He.eqO_ok (okX.at h 40)
  hn := He.eqO_ok (okX.at h 41)
  htk := of_decide_eq_true (okX.at h 42)
  hm := of_decide_eq_true (okX.at h 43)
  kint := of_decide_eq_true (okX.at h 44)
  kbl := of_decide_eq_true (okX.at h 45)
  klst := of_decide_eq_true (okX.at h 46)
  ktup := of_decide_eq_true (okX.at h 47)
  self := by
    unfold PySem.W.kitOne
    rw [if_pos (beq_self_eq_true _)]
  ty := by
    intro T hT
    simp only [List.mem_cons, List.not_mem_nil, or_false] at hT
    rcases hT with rfl | rfl | rfl | rfl | rfl | rfl | rfl
    · exact of_decide_eq_true (okX.at h 48)
    · exact of_decide_eq_true (okX.at h 49)
    · exact of_decide_eq_true (okX.at h 50)
    · exact of_decide_eq_true (okX.at h 51)
    · exact of_decide_eq_true (okX.at h 52)
    · exact of_decide_eq_true (okX.at h 53)
    · exact of_decide_eq_true (okX.at h 54)
theorem txt_of (X : K.In hp) (G : hp.Ns mainGlobals mg) (h : okX K = true) : Txt K mg (rc K) where
  O := own_of h
  nT := He.eqO_ok (okX.at h 55)
  nB := He.eqO_ok (okX.at h 56)
  mgC := PySem.W.mg_of X G (He.eqO_ok (okX.at h 35))
  isi := PySem.W.mg_none_of X G (He.eqO_ok (okX.at h 0))
  int := PySem.W.mg_none_of X G (He.eqO_ok (okX.at h 1))
  bool := PySem.W.mg_none_of X G (He.eqO_ok (okX.at h 2))
  abs := PySem.W.mg_none_of X G (He.eqO_ok (okX.at h 3))
  max := PySem.W.mg_none_of X G (He.eqO_ok (okX.at h 4))
  str := PySem.W.mg_none_of X G (He.eqO_ok (okX.at h 5))
  repr := PySem.W.mg_none_of X G (He.eqO_ok (okX.at h 6))
  len := PySem.W.mg_none_of X G (He.eqO_ok (okX.at h 7))
  sum := PySem.W.mg_none_of X G (He.eqO_ok (okX.at h 8))
  all := PySem.W.mg_none_of X G (He.eqO_ok (okX.at h 9))
  divmod := PySem.W.mg_none_of X G (He.eqO_ok (okX.at h 10))
  range := PySem.W.mg_none_of X G (He.eqO_ok (okX.at h 11))
  lst := PySem.W.mg_none_of X G (He.eqO_ok (okX.at h 12))
  tup := PySem.W.mg_none_of X G (He.eqO_ok (okX.at h 13))
  gcd := PySem.W.mg_of X G (He.eqO_ok (okX.at h 14))
  lcm := PySem.W.mg_of X G (He.eqO_ok (okX.at h 15))
/-- a def without defaults: its function, how it binds -/
structure Got (K : PySem.W.Frag) (x qual : Str) (st : Stmt) (f : Addr) (ps : List Str) : Prop where
  ex : ∃ fd, Fun K x qual st f fd ∧ Binds K fd ps [] ∧ PySem.W.keepIn K (.ref f) = true
theorem got0 (c : TellX okX fn K) : Got K "is_integer" "is_integer" (K11.top 2) (He.ga K "is_integer") ["value"] := by
  obtain ⟨fd, F⟩ := c.def_ 0
  have b := FunD.bindsN (ps := ["value"]) F fun _ _ _ _ _ _ us hl => match us, hl with | [_], _ => rfl
  exact ⟨fd, He5.fun_of F, b, F.kp⟩
theorem got1 (c : TellX okX fn K) : Got K "is_count" "is_count" (K11.top 3) (He.ga K "is_count") ["value"] := by
  obtain ⟨fd, F⟩ := c.def_ 1
  have b := FunD.bindsN (ps := ["value"]) F fun _ _ _ _ _ _ us hl => match us, hl with | [_], _ => rfl
  exact ⟨fd, He5.fun_of F, b, F.kp⟩
theorem got2 (c : TellX okX fn K) : Got K "is_number" "is_number" (K11.top 10) (He.ga K "is_number") ["value"] := by
  obtain ⟨fd, F⟩ := c.def_ 2
  have b := FunD.bindsN (ps := ["value"]) F fun _ _ _ _ _ _ us hl => match us, hl with | [_], _ => rfl
  exact ⟨fd, He5.fun_of F, b, F.kp⟩
theorem got3 (c : TellX okX fn K) : Got K "need_number" "need_number" (K11.top 11) (He.ga K "need_number") ["value"] := by
  obtain ⟨fd, F⟩ := c.def_ 3
  have b := FunD.bindsN (ps := ["value"]) F fun _ _ _ _ _ _ us hl => match us, hl with | [_], _ => rfl
  exact ⟨fd, He5.fun_of F, b, F.kp⟩
theorem got4 (c : TellX okX fn K) : Got K "pair_of" "pair_of" (K11.top 12) (He.ga K "pair_of") ["number"] := by
  obtain ⟨fd, F⟩ := c.def_ 4
  have b := FunD.bindsN (ps := ["number"]) F fun _ _ _ _ _ _ us hl => match us, hl with | [_], _ => rfl
  exact ⟨fd, He5.fun_of F, b, F.kp⟩
theorem got5 (c : TellX okX fn K) : Got K "cleared" "cleared" (K11.top 13) (He.ga K "cleared") ["numbers"] := by
  obtain ⟨fd, F⟩ := c.def_ 5
  have b := FunD.bindsN (ps := ["numbers"]) F fun _ _ _ _ _ _ us hl => match us, hl with | [_], _ => rfl
  exact ⟨fd, He5.fun_of F, b, F.kp⟩
theorem got6 (c : TellX okX fn K) : Got K "_law_pot" "_law_pot" (K11.top 15) (He.ga K "_law_pot") ["_law_script", "_law_k"] := by
  obtain ⟨fd, F⟩ := c.def_ 6
  have b := FunD.bindsN (ps := ["_law_script", "_law_k"]) F fun _ _ _ _ _ _ us hl => match us, hl with | [_, _], _ => rfl
  exact ⟨fd, He5.fun_of F, b, F.kp⟩
theorem got7 (c : TellX okX fn K) : Got K "_law_draw" "_law_draw" (K11.top 16) (He.ga K "_law_draw") ["_law_pot_here", "_law_many"] := by
  obtain ⟨fd, F⟩ := c.def_ 7
  have b := FunD.bindsN (ps := ["_law_pot_here", "_law_many"]) F fun _ _ _ _ _ _ us hl => match us, hl with | [_, _], _ => rfl
  exact ⟨fd, He5.fun_of F, b, F.kp⟩
theorem got8 (c : TellX okX fn K) : Got K "_law_pick" "_law_pick" (K11.top 17) (He.ga K "_law_pick") ["_law_pot_here", "_law_some"] := by
  obtain ⟨fd, F⟩ := c.def_ 8
  have b := FunD.bindsN (ps := ["_law_pot_here", "_law_some"]) F fun _ _ _ _ _ _ us hl => match us, hl with | [_, _], _ => rfl
  exact ⟨fd, He5.fun_of F, b, F.kp⟩
theorem got9 (c : TellX okX fn K) : Got K "_law_low" "_law_low" (K11.top 18) (He.ga K "_law_low") ["_law_top", "_law_bottom"] := by
  obtain ⟨fd, F⟩ := c.def_ 9
  have b := FunD.bindsN (ps := ["_law_top", "_law_bottom"]) F fun _ _ _ _ _ _ us hl => match us, hl with | [_, _], _ => rfl
  exact ⟨fd, He5.fun_of F, b, F.kp⟩
theorem got10 (c : TellX okX fn K) : Got K "_law_plus" "_law_plus" (K11.top 19) (He.ga K "_law_plus") ["_law_a", "_law_b"] := by
  obtain ⟨fd, F⟩ := c.def_ 10
  have b := FunD.bindsN (ps := ["_law_a", "_law_b"]) F fun _ _ _ _ _ _ us hl => match us, hl with | [_, _], _ => rfl
  exact ⟨fd, He5.fun_of F, b, F.kp⟩
theorem got11 (c : TellX okX fn K) : Got K "_law_by" "_law_by" (K11.top 20) (He.ga K "_law_by") ["_law_a", "_law_b"] := by
  obtain ⟨fd, F⟩ := c.def_ 11
  have b := FunD.bindsN (ps := ["_law_a", "_law_b"]) F fun _ _ _ _ _ _ us hl => match us, hl with | [_, _], _ => rfl
  exact ⟨fd, He5.fun_of F, b, F.kp⟩
theorem got12 (c : TellX okX fn K) : Got K "_law_over" "_law_over" (K11.top 21) (He.ga K "_law_over") ["_law_a", "_law_b"] := by
  obtain ⟨fd, F⟩ := c.def_ 12
  have b := FunD.bindsN (ps := ["_law_a", "_law_b"]) F fun _ _ _ _ _ _ us hl => match us, hl with | [_, _], _ => rfl
  exact ⟨fd, He5.fun_of F, b, F.kp⟩
theorem got13 (c : TellX okX fn K) : Got K "_law_raw" "_law_raw" (K11.top 22) (He.ga K "_law_raw") ["_law_pot_here"] := by
  obtain ⟨fd, F⟩ := c.def_ 13
  have b := FunD.bindsN (ps := ["_law_pot_here"]) F fun _ _ _ _ _ _ us hl => match us, hl with | [_], _ => rfl
  exact ⟨fd, He5.fun_of F, b, F.kp⟩
theorem got14 (c : TellX okX fn K) : Got K "_law_pair" "_law_pair" (K11.top 23) (He.ga K "_law_pair") ["_law_value"] := by
  obtain ⟨fd, F⟩ := c.def_ 14
  have b := FunD.bindsN (ps := ["_law_value"]) F fun _ _ _ _ _ _ us hl => match us, hl with | [_], _ => rfl
  exact ⟨fd, He5.fun_of F, b, F.kp⟩
theorem got15 (c : TellX okX fn K) : Got K "_law_one_right" "_law_one_right" (K11.top 24) (He.ga K "_law_one_right") ["_law_raw_here"] := by
  obtain ⟨fd, F⟩ := c.def_ 15
  have b := FunD.bindsN (ps := ["_law_raw_here"]) F fun _ _ _ _ _ _ us hl => match us, hl with | [_], _ => rfl
  exact ⟨fd, He5.fun_of F, b, F.kp⟩
theorem got16 (c : TellX okX fn K) : Got K "_law_two_right" "_law_two_right" (K11.top 25) (He.ga K "_law_two_right") ["_law_raw_here", "_law_other", "_law_number"] := by
  obtain ⟨fd, F⟩ := c.def_ 16
  have b := FunD.bindsN (ps := ["_law_raw_here", "_law_other", "_law_number"]) F fun _ _ _ _ _ _ us hl => match us, hl with | [_, _, _], _ => rfl
  exact ⟨fd, He5.fun_of F, b, F.kp⟩
theorem got17 (c : TellX okX fn K) : Got K "_law_right" "_law_right" (K11.top 26) (He.ga K "_law_right") ["_law_pot_here"] := by
  obtain ⟨fd, F⟩ := c.def_ 17
  have b := FunD.bindsN (ps := ["_law_pot_here"]) F fun _ _ _ _ _ _ us hl => match us, hl with | [_], _ => rfl
  exact ⟨fd, He5.fun_of F, b, F.kp⟩
theorem got18 (c : TellX okX fn K) : Got K "law" "law" (K11.top 27) (He.ga K "law") ["_law_script"] := by
  obtain ⟨fd, F⟩ := c.def_ 18
  have b := FunD.bindsN (ps := ["_law_script"]) F fun _ _ _ _ _ _ us hl => match us, hl with | [_], _ => rfl
  exact ⟨fd, He5.fun_of F, b, F.kp⟩
theorem got20 (c : TellX okX fn K) : Got K "__add__" "Ratio.__add__" (cm 5) (He.ma K (rc K) "__add__") ["self", "other"] := by
  obtain ⟨fd, F⟩ := c.def_ 20
  have b := FunD.bindsN (ps := ["self", "other"]) F fun _ _ _ _ _ _ us hl => match us, hl with | [_, _], _ => rfl
  exact ⟨fd, He5.fun_of F, b, F.kp⟩
theorem got21 (c : TellX okX fn K) : Got K "__radd__" "Ratio.__radd__" (cm 6) (He.ma K (rc K) "__radd__") ["self", "other"] := by
  obtain ⟨fd, F⟩ := c.def_ 21
  have b := FunD.bindsN (ps := ["self", "other"]) F fun _ _ _ _ _ _ us hl => match us, hl with | [_, _], _ => rfl
  exact ⟨fd, He5.fun_of F, b, F.kp⟩
theorem got22 (c : TellX okX fn K) : Got K "__sub__" "Ratio.__sub__" (cm 7) (He.ma K (rc K) "__sub__") ["self", "other"] := by
  obtain ⟨fd, F⟩ := c.def_ 22
  have b := FunD.bindsN (ps := ["self", "other"]) F fun _ _ _ _ _ _ us hl => match us, hl with | [_, _], _ => rfl
  exact ⟨fd, He5.fun_of F, b, F.kp⟩
theorem got23 (c : TellX okX fn K) : Got K "__rsub__" "Ratio.__rsub__" (cm 8) (He.ma K (rc K) "__rsub__") ["self", "other"] := by
  obtain ⟨fd, F⟩ := c.def_ 23
  have b := FunD.bindsN (ps := ["self", "other"]) F fun _ _ _ _ _ _ us hl => match us, hl with | [_, _], _ => rfl
  exact ⟨fd, He5.fun_of F, b, F.kp⟩
theorem got24 (c : TellX okX fn K) : Got K "__mul__" "Ratio.__mul__" (cm 9) (He.ma K (rc K) "__mul__") ["self", "other"] := by
  obtain ⟨fd, F⟩ := c.def_ 24
  have b := FunD.bindsN (ps := ["self", "other"]) F fun _ _ _ _ _ _ us hl => match us, hl with | [_, _], _ => rfl
  exact ⟨fd, He5.fun_of F, b, F.kp⟩
theorem got25 (c : TellX okX fn K) : Got K "__rmul__" "Ratio.__rmul__" (cm 10) (He.ma K (rc K) "__rmul__") ["self", "other"] := by
  obtain ⟨fd, F⟩ := c.def_ 25
  have b := FunD.bindsN (ps := ["self", "other"]) F fun _ _ _ _ _ _ us hl => match us, hl with | [_, _], _ => rfl
  exact ⟨fd, He5.fun_of F, b, F.kp⟩
theorem got26 (c : TellX okX fn K) : Got K "__neg__" "Ratio.__neg__" (cm 11) (He.ma K (rc K) "__neg__") ["self"] := by
  obtain ⟨fd, F⟩ := c.def_ 26
  have b := FunD.bindsN (ps := ["self"]) F fun _ _ _ _ _ _ us hl => match us, hl with | [_], _ => rfl
  exact ⟨fd, He5.fun_of F, b, F.kp⟩
theorem got27 (c : TellX okX fn K) : Got K "over" "Ratio.over" (cm 12) (He.ma K (rc K) "over") ["self", "other"] := by
  obtain ⟨fd, F⟩ := c.def_ 27
  have b := FunD.bindsN (ps := ["self", "other"]) F fun _ _ _ _ _ _ us hl => match us, hl with | [_, _], _ => rfl
  exact ⟨fd, He5.fun_of F, b, F.kp⟩
theorem got28 (c : TellX okX fn K) : Got K "size" "Ratio.size" (cm 13) (He.ma K (rc K) "size") ["self"] := by
  obtain ⟨fd, F⟩ := c.def_ 28
  have b := FunD.bindsN (ps := ["self"]) F fun _ _ _ _ _ _ us hl => match us, hl with | [_], _ => rfl
  exact ⟨fd, He5.fun_of F, b, F.kp⟩
theorem got29 (c : TellX okX fn K) : Got K "is_below" "Ratio.is_below" (cm 14) (He.ma K (rc K) "is_below") ["self", "other"] := by
  obtain ⟨fd, F⟩ := c.def_ 29
  have b := FunD.bindsN (ps := ["self", "other"]) F fun _ _ _ _ _ _ us hl => match us, hl with | [_, _], _ => rfl
  exact ⟨fd, He5.fun_of F, b, F.kp⟩
theorem got30 (c : TellX okX fn K) : Got K "is_at_most" "Ratio.is_at_most" (cm 15) (He.ma K (rc K) "is_at_most") ["self", "other"] := by
  obtain ⟨fd, F⟩ := c.def_ 30
  have b := FunD.bindsN (ps := ["self", "other"]) F fun _ _ _ _ _ _ us hl => match us, hl with | [_, _], _ => rfl
  exact ⟨fd, He5.fun_of F, b, F.kp⟩
theorem got31 (c : TellX okX fn K) : Got K "__eq__" "Ratio.__eq__" (cm 16) (He.ma K (rc K) "__eq__") ["self", "other"] := by
  obtain ⟨fd, F⟩ := c.def_ 31
  have b := FunD.bindsN (ps := ["self", "other"]) F fun _ _ _ _ _ _ us hl => match us, hl with | [_, _], _ => rfl
  exact ⟨fd, He5.fun_of F, b, F.kp⟩
theorem got32 (c : TellX okX fn K) : Got K "__str__" "Ratio.__str__" (cm 17) (He.ma K (rc K) "__str__") ["self"] := by
  obtain ⟨fd, F⟩ := c.def_ 32
  have b := FunD.bindsN (ps := ["self"]) F fun _ _ _ _ _ _ us hl => match us, hl with | [_], _ => rfl
  exact ⟨fd, He5.fun_of F, b, F.kp⟩
theorem got33 (c : TellX okX fn K) : Got K "__repr__" "Ratio.__repr__" (cm 18) (He.ma K (rc K) "__repr__") ["self"] := by
  obtain ⟨fd, F⟩ := c.def_ 33
  have b := FunD.bindsN (ps := ["self"]) F fun _ _ _ _ _ _ us hl => match us, hl with | [_], _ => rfl
  exact ⟨fd, He5.fun_of F, b, F.kp⟩
theorem got34 (c : TellX okX fn K) : Got K "top" "Ratio.top" (cm 1) (He5.wf K (rc K) "property" "top") ["self"] := by
  obtain ⟨fd, F⟩ := c.def_ 34
  have b := FunD.bindsN (ps := ["self"]) F fun _ _ _ _ _ _ us hl => match us, hl with | [_], _ => rfl
  exact ⟨fd, He5.fun_of F, b, F.kp⟩
theorem got35 (c : TellX okX fn K) : Got K "bottom" "Ratio.bottom" (cm 2) (He5.wf K (rc K) "property" "bottom") ["self"] := by
  obtain ⟨fd, F⟩ := c.def_ 35
  have b := FunD.bindsN (ps := ["self"]) F fun _ _ _ _ _ _ us hl => match us, hl with | [_], _ => rfl
  exact ⟨fd, He5.fun_of F, b, F.kp⟩
theorem got36 (c : TellX okX fn K) : Got K "sign" "Ratio.sign" (cm 3) (He5.wf K (rc K) "property" "sign") ["self"] := by
  obtain ⟨fd, F⟩ := c.def_ 36
  have b := FunD.bindsN (ps := ["self"]) F fun _ _ _ _ _ _ us hl => match us, hl with | [_], _ => rfl
  exact ⟨fd, He5.fun_of F, b, F.kp⟩
theorem got37 (c : TellX okX fn K) : Got K "is_whole" "Ratio.is_whole" (cm 4) (He5.wf K (rc K) "property" "is_whole") ["self"] := by
  obtain ⟨fd, F⟩ := c.def_ 37
  have b := FunD.bindsN (ps := ["self"]) F fun _ _ _ _ _ _ us hl => match us, hl with | [_], _ => rfl
  exact ⟨fd, He5.fun_of F, b, F.kp⟩
theorem got38 (c : TellX okX fn K) : Got K "total" "Ratio.total" (cm 19) (He5.wf K (rc K) "classmethod" "total") ["cls", "numbers"] := by
  obtain ⟨fd, F⟩ := c.def_ 38
  have b := FunD.bindsN (ps := ["cls", "numbers"]) F fun _ _ _ _ _ _ us hl => match us, hl with | [_, _], _ => rfl
  exact ⟨fd, He5.fun_of F, b, F.kp⟩
end
end K11

set_option Elab.async false
set_option linter.all false
set_option maxRecDepth 100000
set_option maxHeartbeats 4000000
set_option exponentiation.threshold 20000
namespace K11
open PySem PySem.Spec PyProof.Rows L2 Inn
theorem vals_rev : ∀ {zs : List V} {ws : List Value}, Vals zs ws → Vals zs.reverse ws.reverse
  | _, _, .nil => .nil
  | _, _, .cons r t => by
    rw [List.reverse_cons, List.reverse_cons]
    exact (vals_rev t).append (.cons r .nil)
theorem rec_of {K : PySem.W.Frag} {m : Str} (h : hasRec K (He.ma K (rc K) m) = true) : ∃ rest, PySem.W.recIn K (He.ma K (rc K) m) "property" = some (.ref (He5.wf K (rc K) "property" m) :: rest) := by
  unfold He5.wf
  unfold hasRec at h
  split at h
  · rename_i f r e
    exact ⟨r, by rw [e]⟩
  · cases h
section
variable {P : Program} {w : World} {K : PySem.W.Frag} {mg : Str → Option Value} {hp : Heap} {base : Heap}
theorem kwf1 {n qual : Str} {st : Stmt} {f : Addr} {fd : FuncData} {ps : List Str} {k : Nat} {ks : List Str} (F : Fun K n qual st f fd)
    (h : ∀ (kV doc pm : Value) (an : Option Addr) (cdv ct : Value) (us ws : List Value), us.length = k → ws.length = ks.length → bindArgs (PySem.W.fnOf n qual (defArgs st) (defBody st) (defScope st) .none kV doc pm an cdv ct) ⟨us, ks.zip ws⟩ = pure (ps.zip (us ++ ws))) : KwF K fd ps k ks (· ++ ·) := by
  obtain ⟨oc, od, kV, doc, pm, an, cdv, ct, osl, rfl, lk, hcd⟩ := F.ex
  exact ⟨fun us ws => us ++ ws, ⟨fun s us ws _ l1 l2 => .of_eq (h kV doc pm an cdv ct us ws l1 l2), fun r1 r2 => r1.append r2⟩⟩
theorem opf_of {op : Operator} {d r : Str} {f fr : Addr} (hd : PySem.dunder op.info.2 = d) (hr : dunderR op.info.2 = r) (sf : PySem.W.selfFirst K (rc K) = true) (a : PySem.W.findIn K (.ref (rc K)) d = some (some (.ref f))) (i : PySem.W.isFn K (.ref f) = true)
    (a2 : PySem.W.findIn K (.ref (rc K)) r = some (some (.ref fr))) (i2 : PySem.W.isFn K (.ref fr) = true) (x1 : (PySem.W.findIn K (.type "int") d).isSome = true) (x2 : (PySem.W.findIn K (.type "int") r).isSome = true)
    (s1 : PySem.W.subIn K (.type "int") (.ref (rc K)) = some false) (s2 : PySem.W.subIn K (.ref (rc K)) (.type "int") = some false) : ∃ ro fo, OpF K (rc K) op f fr ro fo := by
  obtain ⟨fo, e1⟩ := Option.isSome_iff_exists.mp x1
  obtain ⟨ro, e2⟩ := Option.isSome_iff_exists.mp x2
  subst hd
  subst hr
  exact ⟨ro, fo, ⟨sf, a, i, a2, i2, e1, e2, s1, s2⟩⟩
theorem all_of (X : K.In hp) (G : hp.Ns mainGlobals mg) (c : TellX okX fn K) : All2 P w K mg base (rc K) ∧ DPot P w K mg base ∧ DRight P w K mg base := by
  have h := c.truth
  have T := txt_of X G h
  obtain ⟨fd0, F0, b0, k0⟩ := (got0 c).ex
  obtain ⟨fd1, F1, b1, k1⟩ := (got1 c).ex
  obtain ⟨fd2, F2, b2, k2⟩ := (got2 c).ex
  obtain ⟨fd3, F3, b3, k3⟩ := (got3 c).ex
  obtain ⟨fd4, F4, b4, k4⟩ := (got4 c).ex
  obtain ⟨fd5, F5, b5, k5⟩ := (got5 c).ex
  obtain ⟨fd6, F6, b6, k6⟩ := (got6 c).ex
  obtain ⟨fd7, F7, b7, k7⟩ := (got7 c).ex
  obtain ⟨fd8, F8, b8, k8⟩ := (got8 c).ex
  obtain ⟨fd9, F9, b9, k9⟩ := (got9 c).ex
  obtain ⟨fd10, F10, b10, k10⟩ := (got10 c).ex
  obtain ⟨fd11, F11, b11, k11⟩ := (got11 c).ex
  obtain ⟨fd12, F12, b12, k12⟩ := (got12 c).ex
  obtain ⟨fd13, F13, b13, k13⟩ := (got13 c).ex
  obtain ⟨fd14, F14, b14, k14⟩ := (got14 c).ex
  obtain ⟨fd15, F15, b15, k15⟩ := (got15 c).ex
  obtain ⟨fd16, F16, b16, k16⟩ := (got16 c).ex
  obtain ⟨fd17, F17, b17, k17⟩ := (got17 c).ex
  obtain ⟨fd20, F20, b20, k20⟩ := (got20 c).ex
  obtain ⟨fd21, F21, b21, k21⟩ := (got21 c).ex
  obtain ⟨fd22, F22, b22, k22⟩ := (got22 c).ex
  obtain ⟨fd23, F23, b23, k23⟩ := (got23 c).ex
  obtain ⟨fd24, F24, b24, k24⟩ := (got24 c).ex
  obtain ⟨fd25, F25, b25, k25⟩ := (got25 c).ex
  obtain ⟨fd26, F26, b26, k26⟩ := (got26 c).ex
  obtain ⟨fd27, F27, b27, k27⟩ := (got27 c).ex
  obtain ⟨fd28, F28, b28, k28⟩ := (got28 c).ex
  obtain ⟨fd29, F29, b29, k29⟩ := (got29 c).ex
  obtain ⟨fd30, F30, b30, k30⟩ := (got30 c).ex
  obtain ⟨fd31, F31, b31, k31⟩ := (got31 c).ex
  obtain ⟨fd32, F32, b32, k32⟩ := (got32 c).ex
  obtain ⟨fd33, F33, b33, k33⟩ := (got33 c).ex
  obtain ⟨fd34, F34, b34, k34⟩ := (got34 c).ex
  obtain ⟨fd35, F35, b35, k35⟩ := (got35 c).ex
  obtain ⟨fd36, F36, b36, k36⟩ := (got36 c).ex
  obtain ⟨fd37, F37, b37, k37⟩ := (got37 c).ex
  obtain ⟨fd38, F38, b38, k38⟩ := (got38 c).ex
  have dInt : DInt P w K mg base (rc K) := ⟨_, _, ok_is_integer F0 T, (PySem.W.mg_of X G (He.eqO_ok (okX.at h 16))), k0, b0⟩
  have dIntK : KDef P w K mg base 1 "is_integer" ["value"] ["value"] (· ++ ·) (SpE (fun _ : Cns (Vd (rc K)) Nil => True) fun a => isIntV a.h) := ⟨_, _, ok_is_integer F0 T, (PySem.W.mg_of X G (He.eqO_ok (okX.at h 16))), k0, kwf1 F0 fun _ _ _ _ _ _ us ws l1 l2 => match us, l1, ws, l2 with | [], _, [_], _ => rfl⟩
  have dCnt : Def P w K mg base 2 "is_count" ["value"] (SpE (fun _ : Cns (Vd (rc K)) Nil => True) fun a => isCountV a.h) := ⟨_, _, ok_is_count F1 T dInt, (PySem.W.mg_of X G (He.eqO_ok (okX.at h 17))), k1, b1⟩
  have dNum : DNum P w K mg base (rc K) := ⟨_, _, ok_is_number F2 T dInt, (PySem.W.mg_of X G (He.eqO_ok (okX.at h 18))), k2, b2⟩
  have dNeed : DNeed P w K mg base (rc K) := ⟨_, _, ok_need_number F3 T dNum, (PySem.W.mg_of X G (He.eqO_ok (okX.at h 19))), k3, b3⟩
  have dPair : DPair P w K mg base (rc K) := ⟨_, _, ok_pair_of F4 T dNeed, (PySem.W.mg_of X G (He.eqO_ok (okX.at h 20))), k4, b4⟩
  obtain ⟨fdI, FI⟩ := c.def_ 19
  have FI : FunI K (He.ma K (rc K) "__init__") fdI := FI
  have OI := ok_init (P := P) (w := w) (mg := mg) (base := base) FI T dInt
  have mkI : Mk K (rc K) (He.ma K (rc K) "__init__") := ⟨(okX.at h 87), He.eqO_ok (okX.at h 57), (okX.at h 58), (okX.at h 88)⟩
  have bI : Binds K fdI ["self", "top", "bottom"] [] := by
    obtain ⟨ds, hv, hb⟩ := FunD.binds1 (ps := ["self", "top", "bottom"]) FI 3 1 (by simp) rfl fun T kV doc pm an cdv ct us its l1 l2 => match us, l1, its, l2 with | [_, _, _], _, [_], _ => ⟨_, rfl, rfl⟩
    cases hv
    exact hb
  have dRat : DRat P w K mg base (rc K) := ⟨_, _, OI, mkI, (PySem.W.mg_of X G (He.eqO_ok (okX.at h 35))), bI⟩
  obtain ⟨its, kbI⟩ := FunD.kbindsD (ps := ["self", "top", "bottom"]) FI 1 ["bottom", "top"] (fun us _ zs => us ++ zs.reverse) (by simp) (fun r1 _ r3 => r1.append (vals_rev r3)) fun T kV doc pm an cdv ct us its ws l1 l2 l3 => match us, l1, its, l2, ws, l3 with | [_], _, [_], _, [_, _], _ => ⟨_, rfl, rfl⟩
  have dRatK : KCDef P w K mg base 2 (rc K) "Ratio" := ⟨_, _, _, OI, mkI, (PySem.W.mg_of X G (He.eqO_ok (okX.at h 35))), kbI⟩
  have d_top : DTop P w K mg base (rc K) := ⟨_, _, _, ok_top F34 T, ⟨He.eqO_ok (okX.at h 101), He.eqO_ok (okX.at h 102), of_decide_eq_true (okX.at h 103), rec_of (okX.at h 104)⟩, b34⟩
  have d_bottom : DBot P w K mg base (rc K) := ⟨_, _, _, ok_bottom F35 T, ⟨He.eqO_ok (okX.at h 105), He.eqO_ok (okX.at h 106), of_decide_eq_true (okX.at h 107), rec_of (okX.at h 108)⟩, b35⟩
  have d_sign : PDef P w K mg base 1 (rc K) "sign" (SpE (tru (A := A1 (rc K))) fun a => sgn a.h.t) := ⟨_, _, _, ok_sign F36 T, ⟨He.eqO_ok (okX.at h 109), He.eqO_ok (okX.at h 110), of_decide_eq_true (okX.at h 111), rec_of (okX.at h 112)⟩, b36⟩
  have d_is_whole : PDef P w K mg base 1 (rc K) "is_whole" (SpE (tru (A := A1 (rc K))) fun a => decide (a.h.b = 1)) := ⟨_, _, _, ok_is_whole F37 T, ⟨He.eqO_ok (okX.at h 113), He.eqO_ok (okX.at h 114), of_decide_eq_true (okX.at h 115), rec_of (okX.at h 116)⟩, b37⟩
  obtain ⟨ro_add, fo_add, of_add⟩ := opf_of (K := K) (op := .Add) (d := "__add__") (r := "__radd__") (by decide +kernel) (by decide +kernel) (okX.at h 90) (He.eqO_ok (okX.at h 59)) (okX.at h 60) (He.eqO_ok (okX.at h 61)) (okX.at h 62) (okX.at h 95) (okX.at h 96) (of_decide_eq_true (okX.at h 91)) (of_decide_eq_true (okX.at h 94))
  have o_add : ODef P w K mg base 5 (rc K) .Add gAdd ok2 := ⟨_, _, _, _, _, of_add, ok_add F20 T dPair dRat, b20⟩
  obtain ⟨ro_sub, fo_sub, of_sub⟩ := opf_of (K := K) (op := .Sub) (d := "__sub__") (r := "__rsub__") (by decide +kernel) (by decide +kernel) (okX.at h 90) (He.eqO_ok (okX.at h 63)) (okX.at h 64) (He.eqO_ok (okX.at h 65)) (okX.at h 66) (okX.at h 97) (okX.at h 98) (of_decide_eq_true (okX.at h 91)) (of_decide_eq_true (okX.at h 94))
  have o_sub : ODef P w K mg base 5 (rc K) .Sub gSub ok2 := ⟨_, _, _, _, _, of_sub, ok_sub F22 T dPair dRat, b22⟩
  obtain ⟨ro_mul, fo_mul, of_mul⟩ := opf_of (K := K) (op := .Mult) (d := "__mul__") (r := "__rmul__") (by decide +kernel) (by decide +kernel) (okX.at h 90) (He.eqO_ok (okX.at h 67)) (okX.at h 68) (He.eqO_ok (okX.at h 69)) (okX.at h 70) (okX.at h 99) (okX.at h 100) (of_decide_eq_true (okX.at h 91)) (of_decide_eq_true (okX.at h 94))
  have o_mul : ODef P w K mg base 5 (rc K) .Mult gMul ok2 := ⟨_, _, _, _, _, of_mul, ok_mul F24 T dPair dRat, b24⟩
  have nDef : NDef P w K mg base (rc K) := ⟨_, _, He.eqO_ok (okX.at h 71), (okX.at h 72), ok_neg F26 T dRat, b26⟩
  have r_add : RDef P w K mg base 6 (rc K) .Add (fun r j => gAdd r (.i j)) ok3 := ⟨_, _, _, _, _, of_add, ok_radd F21 T o_add, b21⟩
  have r_sub : RDef P w K mg base 6 (rc K) .Sub gRsub ok3 := ⟨_, _, _, _, _, of_sub, ok_rsub F23 T o_sub nDef, b23⟩
  have r_mul : RDef P w K mg base 6 (rc K) .Mult (fun r j => gMul r (.i j)) ok3 := ⟨_, _, _, _, _, of_mul, ok_rmul F25 T o_mul, b25⟩
  have mOver := ok_over (P := P) (w := w) (mg := mg) (base := base) F27 T dPair dRat
  have mBelow := ok_is_below (P := P) (w := w) (mg := mg) (base := base) F29 T dPair
  have dClear : DClear P w K mg base (rc K) := ⟨_, _, ok_cleared F5 T dPair, (PySem.W.mg_of X G (He.eqO_ok (okX.at h 21))), k5, b5⟩
  have cread : ClX.CRead K (rc K) (.type "type") := ⟨(okX.at h 117), He.eqO_ok (okX.at h 118)⟩
  have cmet := He5.cmet_of (okX.at h 119) (okX.at h 120)
  have dDraw : DDraw P w K mg base := ⟨_, _, ok_draw F7 T, (PySem.W.mg_of X G (He.eqO_ok (okX.at h 23))), k7, b7⟩
  have dLow : DLow P w K mg base := ⟨_, _, ok_low F9 T, (PySem.W.mg_of X G (He.eqO_ok (okX.at h 25))), k9, b9⟩
  have all : All P w K mg base (rc K) := {
    T := T, int := dInt, intK := dIntK, cnt := dCnt, num := dNum, rat := dRat, ratK := dRatK, top := d_top, bot := d_bottom, sign := d_sign, whole := d_is_whole
    add := o_add, sub := o_sub, mul := o_mul, radd := r_add, rsub := r_sub, rmul := r_mul, neg := nDef
    over := ⟨_, _, mOver, ⟨He.eqO_ok (okX.at h 73), (okX.at h 74), k27⟩, b27⟩
    overK := ⟨_, _, mOver, ⟨He.eqO_ok (okX.at h 73), (okX.at h 74), k27⟩, kwf1 F27 fun _ _ _ _ _ _ us ws l1 l2 => match us, l1, ws, l2 with | [_], _, [_], _ => rfl⟩
    size := ⟨_, _, ok_size F28 T dRat, ⟨He.eqO_ok (okX.at h 75), (okX.at h 76), k28⟩, b28⟩
    below := ⟨_, _, mBelow, ⟨He.eqO_ok (okX.at h 77), (okX.at h 78), k29⟩, b29⟩
    belowK := ⟨_, _, mBelow, ⟨He.eqO_ok (okX.at h 77), (okX.at h 78), k29⟩, kwf1 F29 fun _ _ _ _ _ _ us ws l1 l2 => match us, l1, ws, l2 with | [_], _, [_], _ => rfl⟩
    most := ⟨_, _, ok_is_at_most F30 T dPair, ⟨He.eqO_ok (okX.at h 79), (okX.at h 80), k30⟩, b30⟩
    eq := ⟨_, _, ⟨He.eqO_ok (okX.at h 81), (okX.at h 82), He.eqO_ok (okX.at h 89), of_decide_eq_true (okX.at h 43), (by
      intro T hT
      simp only [List.mem_cons, List.not_mem_nil, or_false] at hT
      rcases hT with rfl | rfl | rfl
      · exact of_decide_eq_true (okX.at h 91)
      · exact of_decide_eq_true (okX.at h 92)
      · exact of_decide_eq_true (okX.at h 93)), of_decide_eq_true (okX.at h 94)⟩, ok_eq F31 T, b31⟩
    str := ⟨_, _, He.eqO_ok (okX.at h 83), (okX.at h 84), ok_str F32 T, b32⟩
    repr := ⟨_, _, He.eqO_ok (okX.at h 85), (okX.at h 86), ok_repr F33 T, b33⟩
    total := ⟨_, _, _, _, ok_total F38 T dClear dRat, cread, cmet, b38, kwf1 F38 fun _ _ _ _ _ _ us ws l1 l2 => match us, l1, ws, l2 with | [_], _, [_], _ => rfl⟩
    draw := dDraw
    pickI := ⟨_, _, ok_pick F8 T dDraw, (PySem.W.mg_of X G (He.eqO_ok (okX.at h 24))), k8, b8⟩
    pickP := ⟨_, _, ok_pick F8 T dDraw, (PySem.W.mg_of X G (He.eqO_ok (okX.at h 24))), k8, b8⟩
    low := dLow
    plus := ⟨_, _, ok_plus F10 dLow, (PySem.W.mg_of X G (He.eqO_ok (okX.at h 26))), k10, b10⟩
    by_ := ⟨_, _, ok_by F11 dLow, (PySem.W.mg_of X G (He.eqO_ok (okX.at h 27))), k11, b11⟩
    ovr := ⟨_, _, ok_ovr F12 dLow, (PySem.W.mg_of X G (He.eqO_ok (okX.at h 28))), k12, b12⟩
    pair := ⟨_, _, ok_pair F14 T d_top d_bottom, (PySem.W.mg_of X G (He.eqO_ok (okX.at h 30))), k14, b14⟩ }
  have all2 : All2 P w K mg base (rc K) := { all with
    raw := ⟨_, _, ok_raw F13 all, (PySem.W.mg_of X G (He.eqO_ok (okX.at h 29))), k13, b13⟩
    one := ⟨_, _, ok_one F15 all, (PySem.W.mg_of X G (He.eqO_ok (okX.at h 31))), k15, b15⟩
    two := ⟨_, _, ok_two F16 all, (PySem.W.mg_of X G (He.eqO_ok (okX.at h 32))), k16, b16⟩ }
  exact ⟨all2, ⟨_, _, ok_pot F6 T, (PySem.W.mg_of X G (He.eqO_ok (okX.at h 22))), k6, b6⟩, ⟨_, _, ok_right F17 all2, (PySem.W.mg_of X G (He.eqO_ok (okX.at h 33))), k17, b17⟩⟩
/-- the law's own def -/
theorem law_of {f : Addr} (X : K.In hp) (G : hp.Ns mainGlobals mg) (c : TellX okX fn K) (hfa : mg ("law" : Str) = some (.ref f)) :
    ∃ fd : FuncData, (∀ (s : Shared) (v : Value), BindsTo s fd ⟨[v], []⟩ [("_law_script", v)]) ∧ ∀ base : Heap, K.In base → base.Ns mainGlobals mg → FnG P w K mg base 11 f fd ["_law_script"] (spLaw K) := by
  have h := c.truth
  obtain ⟨fd, F⟩ := c.def_ 18
  have e := hfa.symm.trans (PySem.W.mg_of X G (He.eqO_ok (okX.at h 34)))
  cases e
  have b := FunD.bindsA (ps := ["_law_script"]) F fun _ _ _ _ _ _ us hl => match us, hl with | [_], _ => rfl
  refine ⟨fd, fun s v => b s [v] rfl, fun base _ _ => ?_⟩
  obtain ⟨_, dp, dr⟩ := all_of (P := P) (w := w) (base := base) X G c
  exact ok_law (He5.fun_of F) dp dr
end
end K11

set_option Elab.async false
set_option linter.all false
set_option maxRecDepth 100000
set_option maxHeartbeats 4000000
namespace K11
open PySem PySem.Spec PyProof.Rows L2 Inn
/-- the walk, the written part told by the head -/
theorem walkE {l : PySem.W.OpenLaw} {n k : Nat} {q : Program} {loose : List Str} {XP : (Str → Option Value) → Heap → Prop} {YP : World → Heap → Prop} {d : DefRec} {x : Str}
    (most : l.most = some n) (small : n ≤ sizeLine) (nodef : d.params.defaults = []) (rm : Room k callerA)
    (F : ∀ (w : World) (mg : Str → Option Value) (fa : Addr) (h : Heap), YP w h → h.Ns mainGlobals mg → mg d.name = some (.ref fa) → ∃ (K : PySem.W.Frag) (fd : FuncData) (sp : Sp), K.In h ∧ (∀ (s : Shared) (u : Value), BindsTo s fd ⟨[u], []⟩ [(x, u)]) ∧
      (∀ (T : Hp) (a : Addr) (ns : List Int), Only T → SqL K T a (ns.map V.int) → sp [.ref a] T (fun v _ => v = .bl true) E0) ∧ ∀ base : Heap, K.In base → base.Ns mainGlobals mg → FnG l.prog w K mg base k fa fd [x] sp) :
    PySem.W.WalkO q loose XP YP l.row.toRowW d [] (fun f vs => PySem.call f vs) := by
  refine Att.attach_call most nodef fun w s0 s1 mg mb fa o pm cd doc a vs ns G Y ho hd hcd named obj itz len ge => ?_
  obtain ⟨K, fd, sp, inK, bd, hs, all⟩ := F w mg fa _ Y G.T.g named
  exact callG inK G.T.g G.T.b G.T.builtins G.T.nolimit ge obj itz (Nat.le_trans len small) rm all bd fun T oT hS => hs T a ns oT hS
end K11
open PySem PySem.W PySem.Calls PyProof.Rows
set_option maxHeartbeats 0 in
theorem PySem.Challenge.cw_innerfractions_k11_ratios_reckoned_holds : PySem.Challenge.rw_innerfractions_k11_ratios_reckoned.Holds := by
  w_on; o_law
  refine HandSHeadRun.head_imp (r := OpenLaw.row PySem.Challenge.rw_innerfractions_k11_ratios_reckoned) (q := view (OpenLaw.row PySem.Challenge.rw_innerfractions_k11_ratios_reckoned).prog [0, 27]) (H := K11.hk) (ob := K11.ob) (M := 6000) (loose := K11.names) (d := HandSHeadRun.topDef (OpenLaw.row PySem.Challenge.rw_innerfractions_k11_ratios_reckoned).prog 27) (kwd := []) K11.ob_eq K11.run
    (by kernel_rfl) (by kernel_rfl) (by kernel_rfl) (by rfl) (by first | assumption | decide +kernel) (by decide +kernel) ⟨rfl, rfl, rfl, rfl, rfl, by decide +kernel⟩ ?hw ?hc
  case hw => w_witness2
  case hc =>
    refine K11.walkE (l := PySem.Challenge.rw_innerfractions_k11_ratios_reckoned) (n := 63) (k := 11) (x := "_law_script") rfl (by decide) (by kernel_rfl) ⟨rfl, by decide, by decide⟩ ?F
    intro w mg fa h Y G hmg0
    obtain ⟨K, KX, c⟩ := Y
    have hmg : mg ("law" : PySem.Str) = some (.ref fa) := by
      have e : (HandSHeadRun.topDef (OpenLaw.row PySem.Challenge.rw_innerfractions_k11_ratios_reckoned).prog 27).name = ("law" : PySem.Str) := by kernel_rfl
      rw [← e]
      exact hmg0
    obtain ⟨fd, hb, hF⟩ := K11.law_of (P := (PySem.Challenge.rw_innerfractions_k11_ratios_reckoned).prog) (w := w) KX G c hmg
    exact ⟨K, fd, K11.spLaw K, KX, hb, fun T a ns oT hS => ⟨a, ns, rfl, hS, fun _ => rfl⟩, hF⟩

