import PyProof.Rows.All
import PySem.Challenge.RW_innerfractions_k42_whole_products_of_for
import Wide.All
import OpenK.AllK
import Wide.FinOn
import PyProof.EqAt
import PyProof.EqKinds
import PyProof.TupleCall
import HandS.ForMost
import HandS.Wide
import HandS.WideBits
import HandS.Gcd
import HandS.IsInst
import HandS.Property
import HandS.ClsMeth
import HandS.FStr
import HandS.Flow
import HandS.OwnEq
import HandS.MakeKw
import HandS.MethStar
import KE.KOpsOwn
import KE.KMathG
import KE.KFmtOwn
import PyProof.InstNe
import KE.KCallOwn
import PyProof.Rows.ReprR
import PyProof.Rows.ReprShort
import HandS.MakeKwOnly
import HandS.Conv
import HandS.Style
import HandS.HeadNt
import HandS.HeadEnd
import HandS.Head0
import HandS.Head1
import HandS.Head2
import HandS.Head3
import KE.KStateDown
import HandS.Walk
import HandS.Zip
import HandS.NoneIn
import PyProof.NeKinds
import PyProof.ReprNest
import PyProof.StrHeap
import HandS.Star
import HandS.Dict
import HandS.List
import HandS.HeadHook2
import HandS.TryOnly
import HandS.ExcOwn
import HandS.WordsExc
import HandS.Small
import PyProof.ReprLen
set_option Elab.async false
set_option linter.all false
set_option maxRecDepth 100000
set_option maxHeartbeats 4000000
/-! Worlds and data: what an expression comes to, whatever else is laid. -/
namespace Inn
open PySem L2
/-- addresses that may change, and what holds of them throughout -/
structure Wld where
  M : Addr → Prop
  I : Hp → Prop
  st : ∀ {H H' : Hp}, I H → (∀ a, M a → H' a = H a) → I H'
  al : ∀ {H : Hp} {a : Addr}, I H → M a → ∃ o, H a = some o
/-- nothing changes -/
def W0 : Wld := ⟨fun _ => False, fun _ => True, fun _ _ => trivial, fun _ h => h.elim⟩
def Up (W : Wld) (H H' : Hp) : Prop := ∀ a o, ¬ W.M a → H a = some o → H' a = some o
theorem Up.refl {W : Wld} (H : Hp) : Up W H H := fun _ _ _ h => h
theorem Up.trans {W : Wld} {H H1 H2 : Hp} (a : Up W H H1) (b : Up W H1 H2) : Up W H H2 := fun x o n h => b x o n (a x o n h)
theorem Up.of {W : Wld} {H H' : Hp} (s : Same H H') : Up W H H' := fun a o _ h => s a o h
theorem not_M {W : Wld} {H : Hp} {p : Addr} (hI : W.I H) (hp : H p = none) : ¬ W.M p := fun m => by
  obtain ⟨o, e⟩ := W.al hI m
  rw [e] at hp
  cases hp
theorem Up.new {W : Wld} {H : Hp} {p : Addr} {o : HO} (h : H p = none) : Up W H (upd H p o) := fun a u _ e => by
  rw [upd_ne (ne_of_none e h)]
  exact e
theorem I_new {W : Wld} {H : Hp} {p : Addr} {o : HO} (hI : W.I H) (h : H p = none) : W.I (upd H p o) := W.st hI fun a m => by
  obtain ⟨u, e⟩ := W.al hI m
  exact upd_ne (ne_of_none e h)
theorem I_mut {W : Wld} {H : Hp} {p : Addr} {o : HO} (hI : W.I H) (h : ¬ W.M p) : W.I (upd H p o) := W.st hI fun a m => upd_ne fun z => h (z ▸ m)
/-- data of a kind, as it stands in the abstract heap -/
class Dat (α : Type) where
  Is : Wld → Hp → V → α → Prop
  up : ∀ {W : Wld} {H H' : Hp} {v : V} {x : α}, Up W H H' → Is W H v x → Is W H' v x
open Dat (Is)
instance : Dat Int := ⟨fun _ _ v x => v = .int x, fun _ h => h⟩
instance : Dat Bool := ⟨fun _ _ v x => v = .bl x, fun _ h => h⟩
instance : Dat Str := ⟨fun _ _ v x => v = .str x, fun _ h => h⟩
instance : Dat Unit := ⟨fun _ _ v _ => v = .non, fun _ h => h⟩
instance {α β : Type} [Dat α] [Dat β] : Dat (α × β) where
  Is W H v x := ∃ p u w, v = .ref p ∧ ¬ W.M p ∧ H p = some (.tup [u, w]) ∧ Is W H u x.1 ∧ Is W H w x.2
  up e h := by
    obtain ⟨p, u, w, e1, n, e2, h1, h2⟩ := h
    exact ⟨p, u, w, e1, n, e p _ n e2, Dat.up e h1, Dat.up e h2⟩
instance {α : Type} [Dat α] : Dat (Option α) where
  Is W H v x := match x with
    | none => v = .non
    | some y => Is W H v y
  up e h := by
    rename_i x
    cases x with
    | none => exact h
    | some y => exact Dat.up (α := α) e h
theorem paired_up {α : Type} [Dat α] {W : Wld} {H H' : Hp} (e : Up W H H') : ∀ {us : List V} {xs : List α}, Paired (fun u x => Is W H u x) us xs → Paired (fun u x => Is W H' u x) us xs
  | _, _, .nil => .nil
  | _, _, .cons h t => .cons (Dat.up e h) (paired_up e t)
instance {α : Type} [Dat α] : Dat (List α) where
  Is W H v xs := ∃ p us, v = .ref p ∧ ¬ W.M p ∧ H p = some (.lst us) ∧ Paired (fun u x => Is W H u x) us xs
  up e h := by
    obtain ⟨p, us, e1, n, e2, h1⟩ := h
    exact ⟨p, us, e1, n, e p _ n e2, paired_up e h1⟩
/-- a Ratio of the class at C -/
structure Rt (C : Addr) where
  t : Int
  b : Int
def rfs (t b : Int) : List (Str × V) := putF "_bottom" (.int b) (putF "_top" (.int t) [])
instance {C : Addr} : Dat (Rt C) where
  Is W H v x := ∃ p dx, v = .ref p ∧ ¬ W.M p ∧ H p = some (.ins C dx (rfs x.t x.b))
  up e h := by
    obtain ⟨p, dx, e1, n, e2⟩ := h
    exact ⟨p, dx, e1, n, e p _ n e2⟩
/-- a value of any kind, as it is -/
structure AnyV where
  v : V
/-- arguments -/
class DArgs (A : Type) where
  Is : Wld → Hp → List V → A → Prop
  up : ∀ {W : Wld} {H H' : Hp} {v : List V} {x : A}, Up W H H' → Is W H v x → Is W H' v x
  n : Nat
  len : ∀ {W : Wld} {H : Hp} {v : List V} {x : A}, Is W H v x → v.length = n
structure Nil where
instance : DArgs Nil := ⟨fun _ _ vs _ => vs = [], fun _ h => h, 0, fun h => by rw [h] <;> rfl⟩
structure Cns (α A : Type) where
  h : α
  t : A
instance {α A : Type} [Dat α] [DArgs A] : DArgs (Cns α A) where
  Is W H vs a := ∃ v r, vs = v :: r ∧ Is W H v a.h ∧ DArgs.Is W H r a.t
  up e h := by
    obtain ⟨v, r, e1, h1, h2⟩ := h
    exact ⟨v, r, e1, Dat.up e h1, DArgs.up e h2⟩
  n := DArgs.n A + 1
  len h := by
    obtain ⟨v, r, e1, h1, h2⟩ := h
    rw [e1, List.length_cons, DArgs.len h2]
section
variable {α β γ A : Type} [Dat α] [Dat β] [Dat γ] [DArgs A]
def Ev (W : Wld) (te : TE) (σ : L2.St) (H : Hp) (P : α → Prop) : Prop :=
  ∀ H1, Up W H H1 → W.I H1 → ∀ Q : VK, (∀ v H2 x, Up W H1 H2 → W.I H2 → Is W H2 v x → P x → Q v H2) → te σ H1 Q
def EvT (W : Wld) (tt : TT) (σ : L2.St) (H : Hp) (P : Bool → Prop) : Prop :=
  ∀ H1, Up W H H1 → W.I H1 → ∀ Q : Bool → Hp → Prop, (∀ b H2, Up W H1 H2 → W.I H2 → P b → Q b H2) → tt σ H1 Q
def EvA (W : Wld) (ta : TA) (σ : L2.St) (H : Hp) (P : A → Prop) : Prop :=
  ∀ H1, Up W H H1 → W.I H1 → ∀ Q : List V → Hp → Prop, (∀ vs H2 a, Up W H1 H2 → W.I H2 → DArgs.Is W H2 vs a → P a → Q vs H2) → ta σ H1 Q
/-- e comes to data with P -/
def Dx (X : Cx) (W : Wld) (e : Expr) (σ : L2.St) (H : Hp) (P : α → Prop) : Prop := ∃ te, PE X e te ∧ Ev W te σ H P
def Tx (X : Cx) (W : Wld) (e : Expr) (σ : L2.St) (H : Hp) (P : Bool → Prop) : Prop := ∃ tt, PT X e tt ∧ EvT W tt σ H P
/-- .. within and, or -/
def Txw (X : Cx) (W : Wld) (e : Expr) (σ : L2.St) (H : Hp) (P : Bool → Prop) : Prop := ∃ tt, PW X e tt ∧ EvT W tt σ H P
def Ax (X : Cx) (W : Wld) (es : List Expr) (σ : L2.St) (H : Hp) (P : A → Prop) : Prop := ∃ ta, PA X es ta ∧ EvA W ta σ H P
variable {X : Cx} {W : Wld} {σ : L2.St} {H : Hp} {pos : Pos} {a b e : Expr} {es : List Expr}
theorem Dx.imp {P R : α → Prop} (h : Dx X W e σ H P) (i : ∀ x, P x → R x) : Dx X W e σ H R :=
  let ⟨te, pe, ev⟩ := h
  ⟨te, pe, fun H1 u hI Q q => ev H1 u hI Q fun v H2 x u2 i2 hx hp => q v H2 x u2 i2 hx (i x hp)⟩
theorem Dx.to {x y : α} (h : Dx X W e σ H (· = x)) (i : x = y) : Dx X W e σ H (· = y) := i ▸ h
theorem Dx.up {H' : Hp} {P : α → Prop} (h : Dx X W e σ H P) (u : Up W H H') : Dx X W e σ H' P :=
  let ⟨te, pe, ev⟩ := h
  ⟨te, pe, fun H1 u1 hI Q q => ev H1 (u.trans u1) hI Q q⟩
theorem Tx.imp {P R : Bool → Prop} (h : Tx X W e σ H P) (i : ∀ x, P x → R x) : Tx X W e σ H R :=
  let ⟨te, pe, ev⟩ := h
  ⟨te, pe, fun H1 u hI Q q => ev H1 u hI Q fun b H2 u2 i2 hp => q b H2 u2 i2 (i b hp)⟩
theorem Tx.to {x y : Bool} (h : Tx X W e σ H (· = x)) (i : x = y) : Tx X W e σ H (· = y) := i ▸ h
/-! ### names, constants -/
theorem dx_var (i : Nat) {nm : Str} {v : V} {x : α} (hv : Is W H v x) (hσ : σ[i]? = some (some v) := by rfl) (hN : X.N[i]? = some nm := by rfl)
    (hvis : Vis X.env.scope nm := by first | exact Or.inl rfl | exact Or.inr (Or.inl rfl) | exact Or.inr (Or.inr rfl)) (hd : (nm == ("__debug__" : Str)) = false := by decide) (hcd : (nm == ("__classdict__" : Str)) = false := by decide) :
    Dx X W (.Name nm pos) σ H (· = x) :=
  ⟨_, pe_var hN hvis hd hcd, fun H1 u hI Q q => ⟨v, hσ, q v H1 x (Up.refl _) hI (Dat.up u hv) rfl⟩⟩
theorem dx_int {i : Int} {j} : Dx X W (.Constant (.int i) j pos) σ H (fun x : Int => x = i) := ⟨_, pe_int, fun H1 _ hI Q q => q _ H1 i (Up.refl _) hI rfl rfl⟩
/-! ### operators -/
theorem dx_op {op : Operator} {r : R2} {P : α → Prop} {R : β → Prop} {S : γ → Prop} (ho : OpR X (binaryOp op) r) (ha : Dx X W a σ H P) (hb : Dx X W b σ H R)
    (hr : ∀ u v H1 x y (Q : VK), Up W H H1 → W.I H1 → Is W H1 u x → Is W H1 v y → P x → R y → (∀ w H2 z, Up W H1 H2 → W.I H2 → Is W H2 w z → S z → Q w H2) → r u v H1 Q) :
    Dx X W (.BinOp a op b pos) σ H S := by
  obtain ⟨ta, pa, va⟩ := ha
  obtain ⟨tb, pb, vb⟩ := hb
  refine ⟨_, pe_op ho pa pb, fun H1 u hI Q q => va H1 u hI _ fun v H2 x u2 i2 hx px => vb H2 (u.trans u2) i2 _ fun w H3 y u3 i3 hy py => ?_⟩
  exact hr v w H3 x y Q ((u.trans u2).trans u3) i3 (Dat.up u3 hx) hy px py fun w' H4 z u4 i4 hz sz => q w' H4 z ((u2.trans u3).trans u4) i4 hz sz
theorem dx_opI {op : Operator} {C : Int → Int → Prop} {g : Int → Int → Int} {i j : Int} (ho : OpR X (binaryOp op) (rI C fun i j => .int (g i j))) (ha : Dx X W a σ H (· = i)) (hb : Dx X W b σ H (· = j)) (hc : C i j) :
    Dx X W (.BinOp a op b pos) σ H (· = g i j) := dx_op ho ha hb fun u v H1 x y Q _ hI hx hy px py q => by
  subst px; subst py
  exact ⟨_, _, hx, hy, hc, q _ H1 _ (Up.refl _) hI rfl rfl⟩
theorem dx_opI0 {op : Operator} {g : Int → Int → Int} {i j : Int} (ho : OpR X (binaryOp op) (rI0 fun i j => .int (g i j))) (ha : Dx X W a σ H (· = i)) (hb : Dx X W b σ H (· = j)) :
    Dx X W (.BinOp a op b pos) σ H (· = g i j) := dx_op ho ha hb fun u v H1 x y Q _ hI hx hy px py q => by
  subst px; subst py
  exact ⟨_, _, hx, hy, q _ H1 _ (Up.refl _) hI rfl rfl⟩
theorem dx_add {i j : Int} (ha : Dx X W a σ H (· = i)) (hb : Dx X W b σ H (· = j)) : Dx X W (.BinOp a .Add b pos) σ H (· = i + j) := dx_opI0 op_add ha hb
theorem dx_sub {i j : Int} (ha : Dx X W a σ H (· = i)) (hb : Dx X W b σ H (· = j)) : Dx X W (.BinOp a .Sub b pos) σ H (· = i - j) := dx_opI0 op_sub ha hb
theorem dx_mul {i j : Int} (ha : Dx X W a σ H (· = i)) (hb : Dx X W b σ H (· = j)) (hc : CMulW i j) : Dx X W (.BinOp a .Mult b pos) σ H (· = i * j) := dx_opI (g := fun i j => i * j) op_mulW ha hb hc
/-! with P -/
theorem dx_addP {P R : Int → Prop} (ha : Dx X W a σ H P) (hb : Dx X W b σ H R) : Dx X W (.BinOp a .Add b pos) σ H (fun z => ∃ i j, P i ∧ R j ∧ z = i + j) := dx_op op_add ha hb fun u v H1 x y Q _ hI hx hy px py q =>
  ⟨_, _, hx, hy, q _ H1 _ (Up.refl _) hI rfl ⟨x, y, px, py, rfl⟩⟩
/-! ### displays -/
theorem ax_nil : Ax X W [] σ H (fun x : Nil => x = ⟨⟩) := ⟨_, pa_nil, fun H1 _ hI Q q => q [] H1 ⟨⟩ (Up.refl _) hI rfl rfl⟩
theorem ax_consP {P : α → Prop} {R : A → Prop} (h : Dx X W e σ H P) (hr : Ax X W es σ H R) (hs : starEach (e :: es) X.env = (false, eval e X.env) :: starEach es X.env := by rfl) :
    Ax X W (e :: es) σ H (fun z : Cns α A => P z.h ∧ R z.t) := by
  obtain ⟨te, pe, ev⟩ := h
  obtain ⟨ta, pa, va⟩ := hr
  refine ⟨_, pa_cons pe pa hs, fun H1 u hI Q q => ev H1 u hI _ fun v H2 x u2 i2 hx px => va H2 (u.trans u2) i2 _ fun vs H3 r u3 i3 hr pr => ?_⟩
  exact q (v :: vs) H3 ⟨x, r⟩ (u2.trans u3) i3 ⟨v, vs, rfl, Dat.up u3 hx, hr⟩ ⟨px, pr⟩
theorem ax_cons {x : α} {r : A} (h : Dx X W e σ H (· = x)) (hr : Ax X W es σ H (· = r)) (hs : starEach (e :: es) X.env = (false, eval e X.env) :: starEach es X.env := by rfl) :
    Ax X W (e :: es) σ H (· = Cns.mk x r) := by
  obtain ⟨ta, pa, ev⟩ := ax_consP h hr hs
  exact ⟨ta, pa, fun H1 u hI Q q => ev H1 u hI Q fun vs H2 a u2 i2 ha pa => q vs H2 a u2 i2 ha (by obtain ⟨p1, p2⟩ := pa; cases a; subst p1; subst p2; rfl)⟩
/-- items of one kind -/
def Lx (X : Cx) (W : Wld) (es : List Expr) (σ : L2.St) (H : Hp) (P : List α → Prop) : Prop := ∃ ta, PA X es ta ∧ ∀ H1, Up W H H1 → W.I H1 → ∀ Q : List V → Hp → Prop, (∀ vs H2 xs, Up W H1 H2 → W.I H2 → Paired (fun u x => Is W H2 u x) vs xs → P xs → Q vs H2) → ta σ H1 Q
theorem lx_nil : Lx (α := α) X W [] σ H (· = []) := ⟨_, pa_nil, fun H1 _ hI Q q => q [] H1 [] (Up.refl _) hI .nil rfl⟩
theorem lx_consP {P : α → Prop} {R : List α → Prop} (h : Dx X W e σ H P) (hr : Lx X W es σ H R) (hs : starEach (e :: es) X.env = (false, eval e X.env) :: starEach es X.env := by rfl) : Lx X W (e :: es) σ H (fun z => ∃ x r, P x ∧ R r ∧ z = x :: r) := by
  obtain ⟨te, pe, ev⟩ := h
  obtain ⟨ta, pa, va⟩ := hr
  refine ⟨_, pa_cons pe pa hs, fun H1 u hI Q q => ev H1 u hI _ fun v H2 x u2 i2 hx px => va H2 (u.trans u2) i2 _ fun vs H3 r u3 i3 hr pr => ?_⟩
  exact q (v :: vs) H3 (x :: r) (u2.trans u3) i3 (.cons (Dat.up u3 hx) hr) ⟨x, r, px, pr, rfl⟩
theorem paired_len {F : V → α → Prop} : ∀ {us : List V} {xs : List α}, Paired F us xs → us.length = xs.length
  | _, _, .nil => rfl
  | _, _, .cons _ t => congrArg Nat.succ (paired_len t)
theorem dx_lstP {P : List α → Prop} (h : Lx X W es σ H P) (hl : ∀ xs, P xs → xs.length ≤ 100000) : Dx X W (.List es pos) σ H P := by
  obtain ⟨ta, pa, va⟩ := h
  refine ⟨_, pe_lst pa, fun H1 u hI Q q => va H1 u hI _ fun vs H2 xs u2 i2 hx px => ⟨Nat.le_trans (by rw [paired_len hx]; exact hl xs px) (by decide), fun p hp => ?_⟩⟩
  exact q _ _ xs (u2.trans (Up.new hp)) (I_new i2 hp) ⟨p, vs, rfl, not_M i2 hp, upd_same, paired_up (Up.new hp) hx⟩ px
/-! ### items -/
end
end Inn
set_option Elab.async false
set_option linter.all false
set_option maxRecDepth 100000
set_option maxHeartbeats 4000000
namespace Inn
open PySem L2
open Dat (Is)
section
variable {α β γ A : Type} [Dat α] [Dat β] [Dat γ] [DArgs A]
variable {X : Cx} {W : Wld} {σ : L2.St} {H : Hp} {pos : Pos} {a b c e : Expr} {es rest : List Expr}
/-! ### comparisons and tests -/
theorem ev_cmpI {op : CmpOp} {g : Int → Int → Bool} {i j : Int} {ta tb : TE} (va : Ev W ta σ H (· = i)) (vb : Ev W tb σ H (· = j)) : Ev W (tOp (rI0 fun i j => .bl (g i j)) ta tb) σ H (· = g i j) :=
  fun H1 u hI Q q => va H1 u hI _ fun v H2 x u2 i2 hx px => vb H2 (u.trans u2) i2 _ fun w H3 y u3 i3 hy py => by
    subst px; subst py
    exact ⟨_, _, hx, hy, q _ H3 _ (u2.trans u3) i3 rfl rfl⟩
theorem ev_test {te : TE} {P : Bool → Prop} (h : Ev W te σ H P) : EvT W (tTest te) σ H P := fun H1 u hI Q q => h H1 u hI _ fun v H2 x u2 i2 hx px => ⟨x, hx, q x H2 u2 i2 px⟩
section
variable {i j : Int}
theorem tx_lt (ha : Dx X W a σ H (· = i)) (hb : Dx X W b σ H (· = j)) : Tx X W (.Compare a [.Lt] [b] pos) σ H (· = decide (i < j)) := let ⟨_, pa, va⟩ := ha; let ⟨_, pb, vb⟩ := hb; ⟨_, pt_cmpR op_lt pa pb (nomark _), ev_test (ev_cmpI (op := .Lt) va vb)⟩
end
/-- flat kinds of which == tells equality -/
class Flat (α : Type) [Dat α] [DecidableEq α] where
  v : α → V
  is : ∀ {W : Wld} {H : Hp} {u : V} {x : α}, Is W H u x → u = v x
  sc : ∀ x y : α, scal (v x) (v y) = true
  eq : ∀ x y : α, decide (v x = v y) = decide (x = y)
instance : Flat Int := ⟨V.int, fun h => h, fun _ _ => rfl, fun x y => by simp⟩
instance : Flat Bool := ⟨V.bl, fun h => h, fun _ _ => rfl, fun x y => by simp⟩
instance : Flat Str := ⟨V.str, fun h => h, fun _ _ => rfl, fun x y => by simp⟩
section
variable [DecidableEq α] [Flat α] {x y : α}
end
/-- kinds that == compares item by item -/
class PyD (α : Type) [Dat α] [DecidableEq α] where
  py : α → PyData
  dp : ∀ {K : PySem.W.Frag} {W : Wld} {H : Hp} {u : V} {x : α}, Is W H u x → Dp K H u (py x)
  lay : ∀ x : α, (py x).canLay0 = true
  dep : Nat
  le : ∀ x : α, (py x).depth ≤ dep
  eq : ∀ x y : α, PyData.eqv (py x) (py y) = decide (x = y)
instance : PyD Int := ⟨.int, fun h => by cases h; exact .int _, fun _ => rfl, 0, fun _ => Nat.le_refl _, fun x y => by unfold PyData.eqv; exact Bool.beq_eq_decide_eq x y⟩
instance : PyD Bool := ⟨.bool, fun h => by cases h; exact .bl _, fun _ => rfl, 0, fun _ => Nat.le_refl _, fun x y => by unfold PyData.eqv; exact Bool.beq_eq_decide_eq x y⟩
instance {α β : Type} [Dat α] [Dat β] [DecidableEq α] [DecidableEq β] [PyD α] [PyD β] : PyD (α × β) where
  py x := .tuple [PyD.py x.1, PyD.py x.2]
  dp h := by
    obtain ⟨p, u, w, rfl, n, e, h1, h2⟩ := h
    exact .tup (SqT.of e) (.cons (PyD.dp h1) (.cons (PyD.dp h2) .nil))
  lay x := by
    show (PyData.canLay0 _ && (PyData.canLay0 _ && true)) = true
    rw [PyD.lay, PyD.lay]
    rfl
  dep := max (PyD.dep α) (PyD.dep β) + 1
  le x := by
    have h1 := PyD.le x.1
    have h2 := PyD.le x.2
    show max (PyData.depth _) (max (PyData.depth _) 0) + 1 ≤ _
    omega
  eq x y := by
    show (PyData.eqv _ _ && (PyData.eqv _ _ && true)) = _
    rw [PyD.eq, PyD.eq, Bool.and_true]
    obtain ⟨x1, x2⟩ := x
    obtain ⟨y1, y2⟩ := y
    by_cases h1 : x1 = y1 <;> by_cases h2 : x2 = y2 <;> simp [h1, h2]
theorem dpAll_of {K : PySem.W.Frag} {H : Hp} [DecidableEq α] [PyD α] : ∀ {us : List V} {xs : List α}, Paired (fun u x => Is W H u x) us xs → DpAll K H us (xs.map PyD.py)
  | _, _, .nil => .nil
  | _, _, .cons h t => .cons (PyD.dp h) (dpAll_of t)
theorem eqvAll_of [DecidableEq α] [PyD α] : ∀ (xs ys : List α), PyData.eqvAll (xs.map PyD.py) (ys.map PyD.py) = decide (xs = ys)
  | [], [] => by simp [PyData.eqvAll]
  | [], _ :: _ => by simp [PyData.eqvAll]
  | _ :: _, [] => by simp [PyData.eqvAll]
  | x :: xs, y :: ys => by
    show (PyData.eqv _ _ && PyData.eqvAll _ _) = _
    rw [PyD.eq, eqvAll_of xs ys]
    by_cases h1 : x = y <;> by_cases h2 : xs = ys <;> simp [h1, h2]
theorem layAll_of [DecidableEq α] [PyD α] : ∀ (xs : List α), PyData.canLayAll0 (xs.map PyD.py) = true
  | [] => rfl
  | x :: xs => by
    show (PyData.canLay0 _ && PyData.canLayAll0 _) = true
    rw [PyD.lay, layAll_of xs]
    rfl
theorem depAll_of [DecidableEq α] [PyD α] : ∀ (xs : List α), PyData.depthAll (xs.map PyD.py) ≤ PyD.dep α
  | [] => Nat.zero_le _
  | x :: xs => by
    have h1 := PyD.le x
    have h2 := depAll_of xs
    show max (PyData.depth _) (PyData.depthAll _) ≤ _
    omega
instance {α : Type} [Dat α] [DecidableEq α] [PyD α] : PyD (List α) where
  py xs := .list (xs.map PyD.py)
  dp h := by
    obtain ⟨p, us, rfl, n, e, h1⟩ := h
    exact .lst (SqL.of e) (dpAll_of h1)
  lay xs := layAll_of xs
  dep := PyD.dep α + 1
  le xs := Nat.succ_le_succ (depAll_of xs)
  eq xs ys := eqvAll_of xs ys
section
variable [DecidableEq α] [PyD α] {x y : α}
end
/-! and, or, not -/
/-! ### statements -/
def Wss (X : Cx) (sts : List Stmt) (D : Ends) (σ : L2.St) (H : Hp) : Prop := ∃ t, PSs X sts t ∧ t D σ H
theorem wss_all {sts : List Stmt} : PSs X sts (fun D σ H => Wss X sts D σ H) := ⟨fun pins s σ H D I ⟨t, p, q⟩ => p.run pins s σ H D I q⟩
variable {D : Ends} {sts bd be : List Stmt}
theorem wss_nil (h : D.nx σ H) : Wss X [] D σ H := ⟨_, pss_nil, h⟩
theorem wss_set (i : Nat) {nm : Str} {P : α → Prop} {pos' : Pos} (he : Dx X W e σ H P) (hI : W.I H) (k : ∀ v H1 x, Up W H H1 → W.I H1 → Is W H1 v x → P x → Wss X sts D (σ.set i (some v)) H1) (nd : X.N.Nodup)
    (hi : X.N[i]? = some nm := by rfl) (hx : Loc X.env.scope nm := by first | exact Or.inl rfl | exact Or.inr rfl) (hs : swapsWith e (some (.Name nm pos')) pos.line X.env = pure false := by rfl) (hf : X.fn nm = true ∨ X.env.scope.names.lookup nm = some .local := by first | exact .inl rfl | exact .inr rfl) :
    Wss X (.Assign [.Name nm pos'] e pos :: sts) D σ H := by
  obtain ⟨te, pe, ev⟩ := he
  exact ⟨_, pss_cons (ps_set nd hi hx pe hs hf) wss_all, ev H (Up.refl _) hI _ fun v H1 x u i1 hx hp => k v H1 x u i1 hx hp⟩
theorem wss_ret {P : α → Prop} (he : Dx X W e σ H P) (hI : W.I H) (k : ∀ v H1 x, Up W H H1 → W.I H1 → Is W H1 v x → P x → D.rt v H1) : Wss X (.Return (some e) pos :: sts) D σ H := by
  obtain ⟨te, pe, ev⟩ := he
  exact ⟨_, pss_cons (ps_ret pe) wss_all, ev H (Up.refl _) hI _ fun v H1 x u i1 hx hp => k v H1 x u i1 hx hp⟩
theorem wss_if {P : Bool → Prop} (hc : Tx X W c σ H P) (hI : W.I H) (k : ∀ b H1, Up W H H1 → W.I H1 → P b → if b = true then Wss X bd { D with nx := fun σ' H' => Wss X sts D σ' H' } σ H1 else Wss X be { D with nx := fun σ' H' => Wss X sts D σ' H' } σ H1) : Wss X (.If c bd be pos :: sts) D σ H := by
  obtain ⟨tc, pc, ev⟩ := hc
  exact ⟨_, pss_cons (ps_if pc wss_all wss_all) wss_all, ev H (Up.refl _) hI _ fun b H1 u i1 hb => k b H1 u i1 hb⟩
end
end Inn
set_option Elab.async false
set_option linter.all false
set_option maxRecDepth 100000
set_option maxHeartbeats 4000000
namespace PySem
open Sem (wp)
open Builtin
section
variable (a : Int) (t : Tok) (l C dx : Addr)
end
namespace W
open PySem.Calls PyProof.Rows
section
variable {prog : Program} {w : World} {A : Around} {E : Value → Shared → Prop} {s : Shared} {K : Frag} {x C f f0 : Addr} {ox : Obj} {od : Option Obj} {i : Int} {t : Tok} {b : Value}
/-- object.__ne__ of an instance with its own __eq__ -/
theorem ne_call {Q : Value → Shared → Prop} (hu : A.in1.units < cLine) (X : K.In s.heap) (I : InstAt s.heap x ox C od) (hm : mroIn K C (.type "object") = some true) (he : findIn K (.ref C) "__eq__" = some (some (.ref f))) (hf : isFn K (.ref f) = true)
    (h : wpAny (model prog w) A.in1 (call (.ref f) [.ref x, b]) (fun v s' => ∃ k, v = .bool k ∧ Q (.bool (!k)) s') E s) : wpAny (model prog w) A (call (.builtin "object.__ne__") [.ref x, b]) Q E s := by
  refine wpAny_call (codeAny_call_builtin (by decide +kernel) F.cmpEntry_ne (check_slot (i := "object.__ne__") (owner := "object") (n := "__ne__") (by decide +kernel) (by decide +kernel) (I.type.andThen (looks_mroIn X hm)) (F.cmpArgs_ne _ _) ?_))
  unfold Builtin.«object.__ne__»
  repeat (first
    | with_reducible refine wpAny_cRoomFor hu ?_
    | (refine wpAny_bind (m := callSpecialIfBound? (.ref x) (Str.ofString "__eq__") [b])
        (ifBound_K X I he hf (wpAny_mono h (fun r s' hr => by
          obtain ⟨k, rfl, hq⟩ := hr
          repeat (first | exact hq | exact wpAny_pure hq | exact wpAny_truthy_bool hq | (refine wpAny_bind (m := truthy (.bool _)) (wpAny_truthy_bool ?_)) | wp_step)) fun _ _ e => e)))
    | wp_step)
theorem bind_objne (self : Value) : bindSpecial (.builtin "object.__ne__") self = pure (.builtin "object.__ne__", [self]) := F.cmp_object.ne.bind self
theorem ifBound_B {M : Model} {id : String} {name : Str} {args : List Value} {Q : Option Value → Shared → Prop} (X : K.In s.heap) (I : InstAt s.heap x ox C od) (hs : findIn K (.ref C) name = some (some (.builtin id))) (hb : ∀ self, bindSpecial (.builtin id) self = pure (.builtin id, [self]))
    (h : wpAny M A (call (.builtin id) (.ref x :: args)) (fun v => Q (some v)) E s) : wpAny M A (callSpecialIfBound? (.ref x) name args) Q E s := by
  simp only [callSpecialIfBound?, bindSpecialIfBound?]
  refine wpAny_holding (wpAny_bind (wpAny_bind (wpAny_bind (I.type.here ((looks_findIn X hs).here ?_)))))
  simp only [hb]
  refine wpAny_bind (wpAny_askSetting (wpAny_ite ?_))
  have fin : wpAny M A (call (.builtin id) ([.ref x] ++ args) >>= fun v => pure (some v)) Q E s := wpAny_bind (wpAny_mono h (fun v s' h' => wpAny_pure h') fun _ _ h' => h')
  split
  · exact wpAny_bind (wpAny_pure (wpAny_pure (by exact fin)))
  · exact wpAny_tryCatch (wpAny_bind (wpAny_pure (wpAny_pure (by exact fin))))
/-- own != by the own == -/
theorem ne_K {tb : Value} {Q : Value → Shared → Prop} (hu : A.units + 1 < cLine) (X : K.In s.heap) (I : InstAt s.heap x ox C od) (hb : Looks (model prog w) s.heap (typeOf b) tb) (hn : notFirst K C tb = true)
    (hs : findIn K (.ref C) "__ne__" = some (some (.builtin "object.__ne__"))) (hm : mroIn K C (.type "object") = some true) (he : findIn K (.ref C) "__eq__" = some (some (.ref f))) (hf : isFn K (.ref f) = true)
    (h : wpAny (model prog w) A.in1 (call (.ref f) [.ref x, b]) (fun v s' => ∃ k, v = .bool k ∧ Q (.bool (!k)) s') E s) : wpAny (model prog w) A (richCompare .NotEq (.ref x) b) Q E s := by
  have one : wpAny (model prog w) A (tryCompare (.ref x) "__ne__" b) (fun r s' => ∃ v, r = some v ∧ Q v s') E s := by
    unfold tryCompare
    refine wpAny_bind (ifBound_B X I hs bind_objne (ne_call (by show A.units + 1 < cLine; exact hu) X I hm he hf (wpAny_mono h (fun v s' hv => ?_) fun _ _ e => e)))
    obtain ⟨k, e, hq⟩ := hv
    exact ⟨k, e, wpAny_pure ⟨_, rfl, hq⟩⟩
  unfold richCompare
  simp only [oneThing_ref]
  refine wpAny_holding (wpAny_bind (wpAny_cRoomFor (Nat.lt_of_succ_lt hu) ?_))
  rw [cmpInfo_NotEq]
  dsimp only
  refine wpAny_bind (I.type.here (wpAny_bind (hb.here ?_)))
  split
  · rename_i q
    have e : subIn K tb (.ref C) = some false := by
      rcases Bool.or_eq_true_iff.mp hn with e | e
      · rw [beq_iff_eq.mp e] at q; simp at q
      · exact beq_iff_eq.mp e
    refine wpAny_bind ((looks_subIn X e).here ?_)
    simp only [Bool.false_eq_true, if_false]
    refine wpAny_bind (wpAny_mono one (fun r s' z => ?_) fun _ _ e => e)
    obtain ⟨v, rfl, hq⟩ := z
    exact wpAny_pure hq
  · refine wpAny_bind (wpAny_pure ?_)
    simp only [Bool.false_eq_true, if_false]
    refine wpAny_bind (wpAny_mono one (fun r s' z => ?_) fun _ _ e => e)
    obtain ⟨v, rfl, hq⟩ := z
    exact wpAny_pure hq
end
end W
end PySem
set_option Elab.async false
set_option linter.all false
set_option maxRecDepth 100000
set_option maxHeartbeats 4000000
namespace Inn
open PySem L2 PySem.Spec PyProof.Rows
open Dat (Is)
/-! ### promises over data -/
def SpF {A β : Type} [DArgs A] [Dat β] (pre : A → Prop) (R : A → β → Prop) : Sp := fun vs H Q _ => ∃ (W : Wld) (a : A), DArgs.Is W H vs a ∧ W.I H ∧ pre a ∧ ∀ u H' y, Up W H H' → W.I H' → Is W H' u y → R a y → Q u H'
theorem spF_len {A β : Type} [DArgs A] [Dat β] {pre : A → Prop} {R : A → β → Prop} {vs : List V} {H : Hp} {Q : VK} {E : XK} (h : SpF pre R vs H Q E) : vs.length = DArgs.n A := by
  obtain ⟨W, a, h1, _⟩ := h
  exact DArgs.len h1
/-- a def of the module -/
structure Def (P : Program) (w : World) (K : PySem.W.Frag) (mg : Str → Option Value) (base : Heap) (k : Nat) (nm : Str) (ps : List Str) (sp : Sp) : Prop where
  ex : ∃ f fd, FnOk P w K mg base CX0 k f fd ps sp ∧ mg nm = some (.ref f) ∧ PySem.W.keepIn K (.ref f) = true ∧ Binds K fd ps []
theorem Def.mono {P : Program} {w : World} {K : PySem.W.Frag} {mg : Str → Option Value} {base : Heap} {j k : Nat} {nm : Str} {ps : List Str} {sp : Sp} (d : Def P w K mg base j nm ps sp) (h : j ≤ k) : Def P w K mg base k nm ps sp :=
  let ⟨f, fd, F, a, b, c⟩ := d.ex
  ⟨f, fd, F.mono h, a, b, c⟩
/-- a method of the class at C -/
structure MDef (P : Program) (w : World) (K : PySem.W.Frag) (mg : Str → Option Value) (base : Heap) (k : Nat) (C : Addr) (nm : Str) (ps : List Str) (sp : Sp) : Prop where
  ex : ∃ f fd, FnOk P w K mg base CX0 k f fd ps sp ∧ Meth K C nm f ∧ Binds K fd ps []
/-- a property -/
structure PDef (P : Program) (w : World) (K : PySem.W.Frag) (mg : Str → Option Value) (base : Heap) (k : Nat) (C : Addr) (nm : Str) (sp : Sp) : Prop where
  ex : ∃ p g fd, FnOk P w K mg base CX0 k g fd ["self"] sp ∧ PropOf K C nm p g ∧ Binds K fd ["self"] []
section
variable {α β γ A : Type} [Dat α] [Dat β] [Dat γ] [DArgs A]
variable {X : Cx} {W : Wld} {σ : L2.St} {H : Hp} {pos p apos : Pos} {a b c e o : Expr} {es rest : List Expr} {k : Nat} {nm : Str} {ps : List Str} {pre : A → Prop} {R : A → β → Prop} {C : Addr}
theorem ev_spF {ta : TA} {P : A → Prop} (va : EvA W ta σ H P) (hp : ∀ a, P a → pre a) {E : XK} : Ev W (tCall (SpF pre R) [] E ta) σ H (fun y => ∃ a, P a ∧ R a y) := fun H1 u hI Q q => va H1 u hI _ fun vs H2 a u2 i2 ha pa => by
  rw [List.append_nil]
  exact ⟨W, a, ha, i2, hp a pa, fun w H3 y u3 i3 hy ry => q w H3 y (u2.trans u3) i3 hy ⟨a, pa, ry⟩⟩
theorem dx_callP {P : A → Prop} (B : Def X.prog X.w X.K X.mg X.base k nm ps (SpF pre R)) (hr : Room k X.A) (ha : Ax X W (e :: es) σ H P) (hp : ∀ a, P a → pre a) (hg : Gl X nm := by rfl) (hdb : (nm == ("__debug__" : Str)) = false := by decide)
    (he : starEach (e :: es) X.env = (false, eval e X.env) :: starEach es X.env := by rfl) (hpl : (backTo pos (starEach es X.env)).any (·.1) = false := by rfl) : Dx X W (.Call (.Name nm p) (e :: es) [] pos) σ H (fun y => ∃ a, P a ∧ R a y) := by
  obtain ⟨f, fd, F, hm, hk, hb⟩ := B.ex
  obtain ⟨ta, pa, va⟩ := ha
  exact ⟨_, pe_call (E := E0) F hr hg hm hk hb .nil pass0 pa hdb he hpl, ev_spF va hp⟩
theorem dx_call {x : A} (B : Def X.prog X.w X.K X.mg X.base k nm ps (SpF pre R)) (hr : Room k X.A) (ha : Ax X W (e :: es) σ H (· = x)) (hp : pre x) (hg : Gl X nm := by rfl) (hdb : (nm == ("__debug__" : Str)) = false := by decide)
    (he : starEach (e :: es) X.env = (false, eval e X.env) :: starEach es X.env := by rfl) (hpl : (backTo pos (starEach es X.env)).any (·.1) = false := by rfl) : Dx X W (.Call (.Name nm p) (e :: es) [] pos) σ H (R x) :=
  (dx_callP B hr ha (fun a pa => pa ▸ hp) hg hdb he hpl).imp fun y hy => by
    obtain ⟨a, pa, ry⟩ := hy
    exact pa ▸ ry
end
/-! ### the body of a def -/
theorem fn_body {A β : Type} [DArgs A] [Dat β] {pre : A → Prop} {R : A → β → Prop} {P : Program} {w : World} {K : PySem.W.Frag} {mg : Str → Option Value} {base : Heap} {x qual : Str} {st : Stmt} {f : Addr} {fd : FuncData} {N ps : List Str} {k : Nat}
    (F : Fun K x qual st f fd) (S : FnScope N ps (defScope st)) (hn : DArgs.n A = ps.length)
    (body : ∀ (cdv : Value) (A' : Around) (outer : List Env) (s : Shared) (H : Hp) (E : XK) (W : Wld) (vs : List V) (a : A) (Q : VK), Room k (A'.deeper (envOfC qual (defScope st) s.heap.objs.size f cdv)) → DArgs.Is W H vs a → W.I H → pre a →
      (∀ u H' y, Up W H H' → W.I H' → Is W H' u y → R a y → Q u H') → Wss (cxOf CX0 P w K mg base N qual (defScope st) f cdv A' outer s H E).nox (defBody st) { nx := fun _ H' => Q .non H', rt := Q } (start N vs) H) :
    FnOk P w K mg base CX0 (k + 1) f fd ps (SpF pre R) :=
  F.ok S (fun vs H Q E h => (spF_len h).trans hn) fun cdv A' outer s H vs Q E hr ⟨W, a, h1, hI, hp, q⟩ => body cdv A' outer s H E W vs a Q hr h1 hI hp q
/-! ### values of any kind -/
inductive Vd (C : Addr) where
  | int (i : Int) | bl (b : Bool) | non | str (x : Str) | rat (x : Rt C) | lst | tup | dct
instance {C : Addr} : Dat (Vd C) where
  Is W H v x := match x with
    | .int i => v = .int i
    | .bl b => v = .bl b
    | .non => v = .non
    | .str z => v = .str z
    | .rat r => Is W H v r
    | .lst => ∃ p us, v = .ref p ∧ ¬ W.M p ∧ H p = some (.lst us)
    | .tup => ∃ p us, v = .ref p ∧ ¬ W.M p ∧ H p = some (.tup us)
    | .dct => ∃ p us, v = .ref p ∧ ¬ W.M p ∧ H p = some (.dK us)
  up e h := by
    rename_i x
    cases x with
    | int i => exact h
    | bl b => exact h
    | non => exact h
    | str z => exact h
    | rat r => exact Dat.up (α := Rt C) e h
    | lst => obtain ⟨p, us, e1, n, e2⟩ := h; exact ⟨p, us, e1, n, e p _ n e2⟩
    | tup => obtain ⟨p, us, e1, n, e2⟩ := h; exact ⟨p, us, e1, n, e p _ n e2⟩
    | dct => obtain ⟨p, us, e1, n, e2⟩ := h; exact ⟨p, us, e1, n, e p _ n e2⟩
/-- a NUMBER -/
inductive Nm (C : Addr) where
  | i (n : Int) | r (x : Rt C)
namespace Nm
variable {C : Addr}
def t : Nm C → Int
  | .i n => n
  | .r x => x.t
def b : Nm C → Int
  | .i _ => 1
  | .r x => x.b
end Nm
instance {C : Addr} : Dat (Nm C) where
  Is W H v x := match x with
    | .i n => v = .int n
    | .r y => Is W H v y
  up e h := by
    rename_i x
    cases x with
    | i n => exact h
    | r y => exact Dat.up (α := Rt C) e h
section
variable {X : Cx} {W : Wld} {σ : L2.St} {H : Hp} {pos p apos : Pos} {a b c e o : Expr} {C : Addr} {α β : Type} [Dat α] [Dat β]
/-- one kind of data as another -/
theorem Dx.as {P : α → Prop} {R : β → Prop} (h : Dx X W e σ H P) (f : α → β) (hf : ∀ {H v x}, Is W H v x → P x → Is W H v (f x) ∧ R (f x)) : Dx X W e σ H R :=
  let ⟨te, pe, ev⟩ := h
  ⟨te, pe, fun H1 u hI Q q => ev H1 u hI Q fun v H2 x u2 i2 hx px => q v H2 (f x) u2 i2 (hf hx px).1 (hf hx px).2⟩
end
/-! ### isinstance -/
/-- what the class at C is to the built-in ones -/
structure Own (K : PySem.W.Frag) (C : Addr) : Prop where
  cl : Cls K C
  ha : PySem.W.findIn K (.ref C) "__class__" = some (some (.builtin "object.__class__"))
  hn : PySem.W.specialIn K (.builtin "object.__class__") "__get__" = some (some (.builtin "getset_descriptor.__get__"))
  htk : PySem.W.takesIn K (.builtin "object.__class__") = some true
  hm : PySem.W.mroIn K C (.type "object") = some true
  kint : PySem.W.kitOne K (.ref C) (.type "int") = some false
  kbl : PySem.W.kitOne K (.ref C) (.type "bool") = some false
  klst : PySem.W.kitOne K (.ref C) (.type "list") = some false
  ktup : PySem.W.kitOne K (.ref C) (.type "tuple") = some false
  self : PySem.W.kitOne K (.ref C) (.ref C) = some true
  ty : ∀ T ∈ ["int", "bool", "NoneType", "str", "list", "tuple", "dict"], PySem.W.kitOne K (.type T) (.ref C) = some false
def Vd.tyv {C : Addr} : Vd C → Value
  | .int _ => .type "int" | .bl _ => .type "bool" | .non => .type "NoneType" | .str _ => .type "str" | .rat _ => .ref C | .lst => .type "list" | .tup => .type "tuple" | .dct => .type "dict"
section
variable {X : Cx} {W : Wld} {σ : L2.St} {H : Hp} {pos p p2 : Pos} {e : Expr} {C : Addr} {x : Vd C}
end
end Inn
set_option Elab.async false
set_option linter.all false
set_option maxRecDepth 100000
set_option maxHeartbeats 4000000
namespace Inn
open PySem L2 PySem.Spec PyProof.Rows
open Dat (Is)
/-! ### Ratios: fields, properties, methods -/
section
variable {X : Cx} {W : Wld} {σ : L2.St} {H : Hp} {pos p apos : Pos} {a b e o : Expr} {es : List Expr} {C : Addr} {r : Rt C} {nm : Str} {k : Nat} {ps : List Str} {α β A : Type} [Dat α] [Dat β] [DArgs A]
/-! ### made -/
/-- what __init__ makes of top and bottom -/
def mkS (t b : Int) : Int := if b > 0 then (Int.gcd t b : Int) else -(Int.gcd t b : Int)
def mk (C : Addr) (t b : Int) : Rt C := ⟨t.fdiv (mkS t b), b.fdiv (mkS t b)⟩
/-- small enough for any reckoning -/
def Sm (i : Int) : Prop := i.natAbs < 2 ^ 8000
def spInit (C : Addr) : Sp := fun vs H Q _ => ∃ p dx t b, vs = [.ref p, .int t, .int b] ∧ H p = some (.ins C dx []) ∧ b ≠ 0 ∧ Sm t ∧ Sm b ∧
  ∀ H', (∀ q o, q ≠ p → H q = some o → H' q = some o) → H' p = some (.ins C dx (rfs (mk C t b).t (mk C t b).b)) → Q .non H'
/-- the class: its name, its maker -/
structure CDef (P : Program) (w : World) (K : PySem.W.Frag) (mg : Str → Option Value) (base : Heap) (k : Nat) (C : Addr) (nm : Str) : Prop where
  ex : ∃ f fd, FnOk P w K mg base CX0 k f fd ["self", "top", "bottom"] (spInit C) ∧ Mk K C f ∧ mg nm = some (.ref C) ∧ Binds K fd ["self", "top", "bottom"] []
/-! ### operators of Ratios -/
structure OpF (K : PySem.W.Frag) (C : Addr) (op : Operator) (f fr : Addr) (ro : Option Value) (fo : Option Value) : Prop where
  sf : PySem.W.selfFirst K C = true
  at_ : PySem.W.findIn K (.ref C) (PySem.dunder op.info.2) = some (some (.ref f))
  isf : PySem.W.isFn K (.ref f) = true
  atR : PySem.W.findIn K (.ref C) (dunderR op.info.2) = some (some (.ref fr))
  isr : PySem.W.isFn K (.ref fr) = true
  i1 : PySem.W.findIn K (.type "int") (PySem.dunder op.info.2) = some fo
  i2 : PySem.W.findIn K (.type "int") (dunderR op.info.2) = some ro
  s1 : PySem.W.subIn K (.type "int") (.ref C) = some false
  s2 : PySem.W.subIn K (.ref C) (.type "int") = some false
/-- the operator's def; the reflected one -/
structure ODef (P : Program) (w : World) (K : PySem.W.Frag) (mg : Str → Option Value) (base : Heap) (k : Nat) (C : Addr) (op : Operator) (g : Rt C → Nm C → Rt C) (pre : Cns (Rt C) (Cns (Nm C) Nil) → Prop) : Prop where
  ex : ∃ f fr fd ro fo, OpF K C op f fr ro fo ∧ FnOk P w K mg base CX0 k f fd ["self", "other"] (SpF pre fun a y => y = g a.h a.t.h) ∧ Binds K fd ["self", "other"] []
structure RDef (P : Program) (w : World) (K : PySem.W.Frag) (mg : Str → Option Value) (base : Heap) (k : Nat) (C : Addr) (op : Operator) (gr : Rt C → Int → Rt C) (prer : Cns (Rt C) (Cns Int Nil) → Prop) : Prop where
  ex : ∃ f fr fdr ro fo, OpF K C op f fr ro fo ∧ FnOk P w K mg base CX0 k fr fdr ["self", "other"] (SpF prer fun a y => y = gr a.h a.t.h) ∧ Binds K fdr ["self", "other"] []
variable {op : Operator} {g : Rt C → Nm C → Rt C} {pre : Cns (Rt C) (Cns (Nm C) Nil) → Prop} {gr : Rt C → Int → Rt C} {prer : Cns (Rt C) (Cns Int Nil) → Prop} {n : Nm C}
end
section
variable {X : Cx} {W : Wld} {σ : L2.St} {H : Hp} {pos : Pos} {a b : Expr} {C : Addr} {r : Rt C} {k : Nat} {g : Rt C → Nm C → Rt C} {pre : Cns (Rt C) (Cns (Nm C) Nil) → Prop} {gr : Rt C → Int → Rt C} {prer : Cns (Rt C) (Cns Int Nil) → Prop} {j : Int}
end
end Inn
set_option Elab.async false
set_option linter.all false
set_option maxRecDepth 100000
set_option maxHeartbeats 4000000
namespace Inn
open PySem L2 PySem.Spec PyProof.Rows
open Dat (Is)
section
variable {X : Cx} {W : Wld} {σ : L2.St} {H : Hp} {pos p apos : Pos} {a b e o : Expr} {es : List Expr} {C : Addr} {r : Rt C} {nm : Str} {k : Nat} {ps : List Str} {α β A : Type} [Dat α] [Dat β] [DArgs A]
/-! ### == of Ratios -/
def eqRV (r : Rt C) : Vd C → Bool
  | .rat y => decide (r.t = y.t) && decide (r.b = y.b)
  | _ => false
structure EqF (K : PySem.W.Frag) (C : Addr) (f : Addr) : Prop where
  at_ : PySem.W.findIn K (.ref C) "__eq__" = some (some (.ref f))
  isf : PySem.W.isFn K (.ref f) = true
  ne : PySem.W.findIn K (.ref C) "__ne__" = some (some (.builtin "object.__ne__"))
  hm : PySem.W.mroIn K C (.type "object") = some true
  sub : ∀ T ∈ ["int", "NoneType", "str"], PySem.W.subIn K (.type T) (.ref C) = some false
  s2 : PySem.W.subIn K (.ref C) (.type "int") = some false
structure EDef (P : Program) (w : World) (K : PySem.W.Frag) (mg : Str → Option Value) (base : Heap) (k : Nat) (C : Addr) : Prop where
  ex : ∃ f fd, EqF K C f ∧ FnOk P w K mg base CX0 k f fd ["self", "other"] (SpF (fun _ : Cns (Rt C) (Cns (Vd C) Nil) => True) fun a y => y = eqRV a.h a.t.h) ∧ Binds K fd ["self", "other"] []
/-! ### str, repr of Ratios -/
structure SDef (P : Program) (w : World) (K : PySem.W.Frag) (mg : Str → Option Value) (base : Heap) (k : Nat) (C : Addr) (nm : Str) (g : Rt C → Str) (pre : Rt C → Prop) : Prop where
  ex : ∃ f fd, PySem.W.findIn K (.ref C) nm = some (some (.ref f)) ∧ PySem.W.isFn K (.ref f) = true ∧ FnOk P w K mg base CX0 k f fd ["self"] (SpF (fun a : Cns (Rt C) Nil => pre a.h) fun a y => y = g a.h) ∧ Binds K fd ["self"] []
variable {g : Rt C → Str} {pre : Rt C → Prop}
end
end Inn
set_option Elab.async false
set_option linter.all false
set_option maxRecDepth 100000
set_option maxHeartbeats 4000000
namespace Inn
open PySem L2 PySem.Spec PyProof.Rows
open Dat (Is)
section
variable {X : Cx} {W : Wld} {σ : L2.St} {H : Hp} {pos p apos : Pos} {a b e o : Expr} {es : List Expr} {nm : Str} {k : Nat} {α β A : Type} [Dat α] [Dat β] [DArgs A]
/-! ### built-ins -/
theorem dx_cb1 {id : String} {r : List V → Hp → VK → Prop} {P : α → Prop} {S : β → Prop} (hc : CallR X (.builtin id) r) (h : Dx X W e σ H P) (hm : X.mg nm = none) (hv : bootBuiltins nm = some (.builtin id))
    (hr : ∀ v H1 x (Q : VK), Up W H H1 → W.I H1 → Is W H1 v x → P x → (∀ w H2 y, Up W H1 H2 → W.I H2 → Is W H2 w y → S y → Q w H2) → r [v] H1 Q) (hg : Gl X nm := by rfl) (hn : nm ≠ "__name__" := by decide) (hdb : (nm == ("__debug__" : Str)) = false := by decide)
    (hs : starEach (e :: []) X.env = (false, eval e X.env) :: starEach [] X.env := by rfl) (hpl : (backTo pos (starEach [] X.env)).any (·.1) = false := by rfl) : Dx X W (.Call (.Name nm p) [e] [] pos) σ H S := by
  obtain ⟨te, pe, ev⟩ := h
  exact ⟨_, pe_callB hc hg hm hv (pa_cons pe pa_nil hs) hn hdb hs hpl, fun H1 u hI Q q => ev H1 u hI _ fun v H2 x u2 i2 hx px => hr v H2 x Q (u.trans u2) i2 hx px fun w H3 y u3 i3 hy sy => q w H3 y (u2.trans u3) i3 hy sy⟩
theorem dx_cb2 {γ : Type} [Dat γ] {id : String} {r : List V → Hp → VK → Prop} {P : α → Prop} {P2 : γ → Prop} {S : β → Prop} (hc : CallR X (.builtin id) r) (h : Dx X W a σ H P) (h2 : Dx X W b σ H P2) (hm : X.mg nm = none) (hv : bootBuiltins nm = some (.builtin id))
    (hr : ∀ v w H1 x z (Q : VK), Up W H H1 → W.I H1 → Is W H1 v x → Is W H1 w z → P x → P2 z → (∀ w H2 y, Up W H1 H2 → W.I H2 → Is W H2 w y → S y → Q w H2) → r [v, w] H1 Q) (hg : Gl X nm := by rfl) (hn : nm ≠ "__name__" := by decide) (hdb : (nm == ("__debug__" : Str)) = false := by decide)
    (hs : starEach (a :: [b]) X.env = (false, eval a X.env) :: starEach [b] X.env := by rfl) (hs2 : starEach (b :: []) X.env = (false, eval b X.env) :: starEach [] X.env := by rfl) (hpl : (backTo pos (starEach [b] X.env)).any (·.1) = false := by rfl) : Dx X W (.Call (.Name nm p) [a, b] [] pos) σ H S := by
  obtain ⟨te, pe, ev⟩ := h
  obtain ⟨tb, pb, vb⟩ := h2
  exact ⟨_, pe_callB hc hg hm hv (pa_cons pe (pa_cons pb pa_nil hs2) hs) hn hdb hs hpl, fun H1 u hI Q q => ev H1 u hI _ fun v H2 x u2 i2 hx px => vb H2 (u.trans u2) i2 _ fun w H3 z u3 i3 hz pz => hr v w H3 x z Q ((u.trans u2).trans u3) i3 (Dat.up u3 hx) hz px pz fun w' H4 y u4 i4 hy sy => q w' H4 y ((u2.trans u3).trans u4) i4 hy sy⟩
theorem dx_abs {i : Int} (h : Dx X W e σ H (· = i)) (hm : X.mg "abs" = none) (hg : Gl X "abs" := by rfl) (hs : starEach (e :: []) X.env = (false, eval e X.env) :: starEach [] X.env := by rfl) (hpl : (backTo pos (starEach [] X.env)).any (·.1) = false := by rfl) :
    Dx X W (.Call (.Name "abs" p) [e] [] pos) σ H (fun x : Int => x = if i < 0 then -i else i) := dx_cb1 call_abs h hm (by decide +kernel) (fun v H1 x Q _ hI hx px q => by
  subst px
  exact ⟨x, by rw [show v = V.int x from hx], q _ H1 _ (Up.refl _) hI rfl rfl⟩) hg (hs := hs) (hpl := hpl)
theorem dx_max2P {i : Int} {P : Int → Prop} (hc : X.calm = true) (ha : Dx X W a σ H (· = i)) (hb : Dx X W b σ H P) (hm : X.mg "max" = none) (hg : Gl X "max" := by rfl) (hs : starEach (a :: [b]) X.env = (false, eval a X.env) :: starEach [b] X.env := by rfl) (hs2 : starEach (b :: []) X.env = (false, eval b X.env) :: starEach [] X.env := by rfl) (hpl : (backTo pos (starEach [b] X.env)).any (·.1) = false := by rfl) :
    Dx X W (.Call (.Name "max" p) [a, b] [] pos) σ H (fun x : Int => ∃ j, P j ∧ x = if j > i then j else i) := dx_cb2 (call_max2 hc) ha hb hm (by decide +kernel) (fun v w H1 x z Q _ hI hx hz px pz q => by
  subst px
  exact ⟨x, z, by rw [show v = V.int x from hx, show w = V.int z from hz], q _ H1 _ (Up.refl _) hI rfl ⟨z, pz, rfl⟩⟩) hg (hs := hs) (hs2 := hs2) (hpl := hpl)
theorem dx_ty1 {T : String} {r : List V → Hp → VK → Prop} {P : α → Prop} {S : β → Prop} (hc : CallR X (.type T) r) (h : Dx X W e σ H P) (hm : X.mg nm = none) (hv : bootBuiltins nm = some (.type T))
    (hr : ∀ v H1 x (Q : VK), Up W H H1 → W.I H1 → Is W H1 v x → P x → (∀ w H2 y, Up W H1 H2 → W.I H2 → Is W H2 w y → S y → Q w H2) → r [v] H1 Q) (hg : Gl X nm := by rfl) (hn : nm ≠ "__name__" := by decide) (hdb : (nm == ("__debug__" : Str)) = false := by decide)
    (hs : starEach (e :: []) X.env = (false, eval e X.env) :: starEach [] X.env := by rfl) (hpl : (backTo pos (starEach [] X.env)).any (·.1) = false := by rfl) : Dx X W (.Call (.Name nm p) [e] [] pos) σ H S := by
  obtain ⟨te, pe, ev⟩ := h
  exact ⟨_, pe_callTy hc hg hm hv (pa_cons pe pa_nil hs) hn hdb hs hpl, fun H1 u hI Q q => ev H1 u hI _ fun v H2 x u2 i2 hx px => hr v H2 x Q (u.trans u2) i2 hx px fun w H3 y u3 i3 hy sy => q w H3 y (u2.trans u3) i3 hy sy⟩
theorem dx_intP {P : Int → Prop} (h : Dx X W e σ H P) (hm : X.mg "int" = none) (hg : Gl X "int" := by rfl) (hs : starEach (e :: []) X.env = (false, eval e X.env) :: starEach [] X.env := by rfl) (hpl : (backTo pos (starEach [] X.env)).any (·.1) = false := by rfl) :
    Dx X W (.Call (.Name "int" p) [e] [] pos) σ H P := dx_ty1 call_int1 h hm (by decide +kernel) (fun v H1 x Q _ hI hx px q => .inl ⟨x, by rw [show v = V.int x from hx], q _ H1 x (Up.refl _) hI rfl px⟩) hg (hs := hs) (hpl := hpl)
theorem ints_of {H : Hp} : ∀ {us : List V} {ns : List Int}, Paired (fun u x => Is W H u x) us ns → us = ns.map V.int
  | _, _, .nil => rfl
  | _, _, .cons h t => by rw [List.map_cons, ints_of t, show _ = V.int _ from h]
/-- divmod by a written positive number -/
theorem dx_divmodP {P : Int → Prop} {j : Int} (ha : Dx X W a σ H P) (hb : Dx X W b σ H (· = j)) (h0 : 0 < j) (h9 : j.natAbs.log2 < 9000) (hm : X.mg "divmod" = none) (hg : Gl X "divmod" := by rfl) (hs : starEach (a :: [b]) X.env = (false, eval a X.env) :: starEach [b] X.env := by rfl) (hs2 : starEach (b :: []) X.env = (false, eval b X.env) :: starEach [] X.env := by rfl) (hpl : (backTo pos (starEach [b] X.env)).any (·.1) = false := by rfl) :
    Dx X W (.Call (.Name "divmod" p) [a, b] [] pos) σ H (fun x : Int × Int => ∃ i, P i ∧ x = (i / j, i % j)) := dx_cb2 call_divmodW ha hb hm (by decide +kernel) (fun v w H1 x z Q _ hI hx hz px pz q => by
  subst pz
  refine ⟨x, z, by rw [show v = V.int x from hx, show w = V.int z from hz], ⟨h0, PyProof.noPylong_of_log2 h9⟩, fun p hp => ?_⟩
  exact q _ _ (x / z, x % z) (Up.new hp) (I_new hI hp) ⟨p, _, _, rfl, not_M hI hp, upd_same, rfl, rfl⟩ ⟨x, px, rfl⟩) hg (hs := hs) (hs2 := hs2) (hpl := hpl)
/-- bits for the built-in gcd and lcm -/
def Lc (i : Int) : Prop := i.natAbs < 2 ^ 6000
theorem lcm_bits {n : Nat} (h : n < 2 ^ 6000) : n.log2 < 6000 := by
  by_cases h0 : n = 0
  · subst h0; decide
  · exact (Nat.log2_lt h0).mpr h
theorem cr_lcm : CallR X (.builtin "math.lcm") (fun vs H Q => ∃ i j : Int, vs = [.int i, .int j] ∧ Lc i ∧ Lc j ∧ Q (.int (Nat.lcm i.natAbs j.natAbs : Nat)) H) := by
  intro pins s σ H vs us Q I r h
  obtain ⟨i, j, rfl, hi, hj, q⟩ := h
  obtain ⟨t, u, rfl⟩ := Vals.int2 r
  have e1 : Nat.lcm 1 i.natAbs = i.natAbs := by simp [Nat.lcm]
  have h1 := lcm_bits hi
  have h2 := lcm_bits hj
  have hl : Nat.lcm i.natAbs j.natAbs < 2 ^ 12000 := by
    refine Nat.lt_of_le_of_lt (Nat.div_le_self _ _) ?_
    rw [show (12000 : Nat) = 6000 + 6000 from rfl, Nat.pow_add]
    exact Nat.mul_lt_mul'' hi hj
  have g := PySem.W.mg_run_lcm i t j u (by
      have : (max 1 i.natAbs).log2 < 6000 := by
        rcases Nat.le_total 1 i.natAbs with h | h
        · rw [Nat.max_eq_right h]; exact h1
        · rw [Nat.max_eq_left h]; decide
      omega) (by
      have : (max i.natAbs j.natAbs).log2 < 6000 := by
        rcases Nat.le_total i.natAbs j.natAbs with h | h
        · rw [Nat.max_eq_right h]; exact h2
        · rw [Nat.max_eq_left h]; exact h1
      omega) (by
      rw [e1, Int.natAbs_natCast]
      have : (Nat.lcm i.natAbs j.natAbs).log2 < 12000 := by
        by_cases h0 : Nat.lcm i.natAbs j.natAbs = 0
        · rw [h0]; decide
        · exact (Nat.log2_lt h0).mpr hl
      have e : bitsLine = 134217728 := by decide
      omega)
  rw [e1] at g
  exact call_function_meets PySem.W.MGF.kind_lcm PySem.W.MGF.plain_lcm PySem.W.MGF.entry_lcm (PySem.W.MGF.args_lcm _ _) g.meets ⟨.int _, H, I.tok _, ⟨_, rfl⟩, q⟩
/-! ### more operators -/
theorem op_fdivA : OpR X (binaryOp .FloorDiv) (rI (fun _ j => j ≠ 0 ∧ j.natAbs.log2 < 9000) fun i j => .int (i.fdiv j)) := opI fun i j _ _ _ _ _ hc q => floordiv_int hc.1 q (.inl (PyProof.noPylong_of_log2 hc.2))
theorem dx_fdivP {P : Int → Prop} {j : Int} (ha : Dx X W a σ H P) (hb : Dx X W b σ H (· = j)) (h0 : j ≠ 0) (h9 : j.natAbs.log2 < 9000) : Dx X W (.BinOp a .FloorDiv b pos) σ H (fun z => ∃ i, P i ∧ z = i.fdiv j) := dx_op op_fdivA ha hb fun u v H1 x y Q _ hI hx hy px py q => by
  subst py
  exact ⟨_, _, hx, hy, ⟨h0, h9⟩, q _ H1 _ (Up.refl _) hI rfl ⟨x, px, rfl⟩⟩
theorem dx_modP {P : Int → Prop} {j : Int} (ha : Dx X W a σ H P) (hb : Dx X W b σ H (· = j)) (h0 : j ≠ 0) : Dx X W (.BinOp a .Mod b pos) σ H (fun z => ∃ i, P i ∧ z = i.fmod j) := dx_op op_modN ha hb fun u v H1 x y Q _ hI hx hy px py q => by
  subst py
  exact ⟨_, _, hx, hy, h0, q _ H1 _ (Up.refl _) hI rfl ⟨x, px, rfl⟩⟩
theorem dx_mulP {P R : Int → Prop} (ha : Dx X W a σ H P) (hb : Dx X W b σ H R) (hc : ∀ i j, P i → R j → CMulW i j) : Dx X W (.BinOp a .Mult b pos) σ H (fun z => ∃ i j, P i ∧ R j ∧ z = i * j) := dx_op op_mulW ha hb fun u v H1 x y Q _ hI hx hy px py q =>
  ⟨_, _, hx, hy, hc x y px py, q _ H1 _ (Up.refl _) hI rfl ⟨x, y, px, py, rfl⟩⟩
theorem dx_pow {i j : Int} (ha : Dx X W a σ H (· = i)) (hb : Dx X W b σ H (· = j)) (hc : 0 ≤ j ∧ j ≤ 1000000 ∧ i.natAbs < 2 ^ 64) : Dx X W (.BinOp a .Pow b pos) σ H (· = i ^ j.toNat) := dx_opI (g := fun i j => i ^ j.toNat) op_pow ha hb hc
theorem tx_gtP {P : Int → Prop} {j : Int} (ha : Dx X W a σ H P) (hb : Dx X W b σ H (· = j)) : Tx X W (.Compare a [.Gt] [b] pos) σ H (fun z => ∃ i, P i ∧ z = decide (j < i)) := by
  obtain ⟨ta, pa, va⟩ := ha
  obtain ⟨tb, pb, vb⟩ := hb
  refine ⟨_, pt_cmpR op_gt pa pb (nomark _), fun H1 u hI Q q => va H1 u hI _ fun v H2 x u2 i2 hx px => vb H2 (u.trans u2) i2 _ fun w H3 y u3 i3 hy py => ?_⟩
  subst py
  exact ⟨_, _, hx, hy, _, rfl, q _ H3 (u2.trans u3) i3 ⟨x, px, rfl⟩⟩
/-! ### f"{a}..{b}" -/
end
end Inn
set_option Elab.async false
set_option linter.all false
set_option maxRecDepth 100000
set_option maxHeartbeats 4000000
namespace Inn
open PySem L2 PySem.Spec PyProof.Rows
open Dat (Is)
/-- plain data stand the same in a lesser world -/
class Wk (α : Type) [Dat α] where
  wk : ∀ {W W' : Wld} {H : Hp} {v : V} {x : α}, (∀ a, W.M a → W'.M a) → Is W' H v x → Is W H v x
instance : Wk Int := ⟨fun _ h => h⟩
instance : Wk Bool := ⟨fun _ h => h⟩
instance : Wk Str := ⟨fun _ h => h⟩
instance {α β : Type} [Dat α] [Dat β] [Wk α] [Wk β] : Wk (α × β) := ⟨fun m h => by
  obtain ⟨p, u, w, e1, n, e2, h1, h2⟩ := h
  exact ⟨p, u, w, e1, fun z => n (m _ z), e2, Wk.wk m h1, Wk.wk m h2⟩⟩
theorem paired_wk {α : Type} [Dat α] [Wk α] {W W' : Wld} {H : Hp} (m : ∀ a, W.M a → W'.M a) : ∀ {us : List V} {xs : List α}, Paired (fun u x => Is W' H u x) us xs → Paired (fun u x => Is W H u x) us xs
  | _, _, .nil => .nil
  | _, _, .cons h t => .cons (Wk.wk m h) (paired_wk m t)
instance {α : Type} [Dat α] [Wk α] : Wk (List α) := ⟨fun m h => by
  obtain ⟨p, us, e1, n, e2, h1⟩ := h
  exact ⟨p, us, e1, fun z => n (m _ z), e2, paired_wk m h1⟩⟩
instance {C : Addr} : Wk (Rt C) := ⟨fun m h => by
  obtain ⟨p, dx, e1, n, e2⟩ := h
  exact ⟨p, dx, e1, fun z => n (m _ z), e2⟩⟩
/-! ### one list that grows -/
/-- the world in which the list at p, of no data, holds us -/
def Wg (W : Wld) (p : Addr) (us : List V) : Wld where
  M a := W.M a ∨ a = p
  I H := W.I H ∧ H p = some (.lst us)
  st h k := ⟨W.st h.1 fun a m => k a (.inl m), by rw [k p (.inr rfl)]; exact h.2⟩
  al h m := by
    rcases m with m | rfl
    · exact W.al h.1 m
    · exact ⟨_, h.2⟩
theorem Up.gw {W : Wld} {H H' : Hp} {p : Addr} {us : List V} (u : Up W H H') : Up (Wg W p us) H H' := fun a o n e => u a o (fun m => n (.inl m)) e
/-- data that stood ahead of the list's making -/
class Gr (α : Type) [Dat α] where
  gr : ∀ {W : Wld} {H : Hp} {D : Addr} {us : List V} {v : V} {x : α}, H D = none → Is W H v x → Is (Wg W D us) H v x
instance : Gr Int := ⟨fun _ h => h⟩
instance : Gr Bool := ⟨fun _ h => h⟩
instance : Gr Str := ⟨fun _ h => h⟩
theorem gr_M {W : Wld} {H : Hp} {D p : Addr} {us : List V} {o : HO} (n : ¬ W.M p) (hD : H D = none) (e : H p = some o) : ¬ (Wg W D us).M p := fun m => m.elim n fun z => ne_of_none e hD z
instance {α β : Type} [Dat α] [Dat β] [Gr α] [Gr β] : Gr (α × β) := ⟨fun hD h => by
  obtain ⟨p, u, w, e1, n, e2, h1, h2⟩ := h
  exact ⟨p, u, w, e1, gr_M n hD e2, e2, Gr.gr hD h1, Gr.gr hD h2⟩⟩
theorem paired_gr {α : Type} [Dat α] [Gr α] {W : Wld} {H : Hp} {D : Addr} {vs : List V} (hD : H D = none) : ∀ {us : List V} {xs : List α}, Paired (fun u x => Is W H u x) us xs → Paired (fun u x => Is (Wg W D vs) H u x) us xs
  | _, _, .nil => .nil
  | _, _, .cons h t => .cons (Gr.gr hD h) (paired_gr hD t)
instance {α : Type} [Dat α] [Gr α] : Gr (List α) := ⟨fun hD h => by
  obtain ⟨p, us, e1, n, e2, h1⟩ := h
  exact ⟨p, us, e1, gr_M n hD e2, e2, paired_gr hD h1⟩⟩
instance {C : Addr} : Gr (Rt C) := ⟨fun hD h => by
  obtain ⟨p, dx, e1, n, e2⟩ := h
  exact ⟨p, dx, e1, gr_M n hD e2, e2⟩⟩
instance {C : Addr} : Gr (Vd C) := ⟨fun {W H D us v x} hD h => by
  cases x with
  | int i => exact h
  | bl i => exact h
  | non => exact h
  | str i => exact h
  | rat r => exact Gr.gr (α := Rt C) hD h
  | lst => obtain ⟨p, us, e1, n, e2⟩ := h; exact ⟨p, us, e1, gr_M n hD e2, e2⟩
  | tup => obtain ⟨p, us, e1, n, e2⟩ := h; exact ⟨p, us, e1, gr_M n hD e2, e2⟩
  | dct => obtain ⟨p, us, e1, n, e2⟩ := h; exact ⟨p, us, e1, gr_M n hD e2, e2⟩⟩
instance {C : Addr} : Gr (Nm C) := ⟨fun {W H D us v x} hD h => by
  cases x with
  | i n => exact h
  | r r => exact Gr.gr (α := Rt C) hD h⟩
instance {C : Addr} : Wk (Vd C) := ⟨fun {W W' H v x} m h => by
  cases x with
  | int i => exact h
  | bl i => exact h
  | non => exact h
  | str i => exact h
  | rat r => exact Wk.wk (α := Rt C) m h
  | lst => obtain ⟨p, us, e1, n, e2⟩ := h; exact ⟨p, us, e1, fun z => n (m _ z), e2⟩
  | tup => obtain ⟨p, us, e1, n, e2⟩ := h; exact ⟨p, us, e1, fun z => n (m _ z), e2⟩
  | dct => obtain ⟨p, us, e1, n, e2⟩ := h; exact ⟨p, us, e1, fun z => n (m _ z), e2⟩⟩
instance {C : Addr} : Wk (Nm C) := ⟨fun {W W' H v x} m h => by
  cases x with
  | i n => exact h
  | r r => exact Wk.wk (α := Rt C) m h⟩
section
variable {X : Cx} {W : Wld} {σ : L2.St} {H : Hp} {pos p apos : Pos} {a b c e o : Expr} {es : List Expr} {nm : Str} {k : Nat} {α β A : Type} [Dat α] [Dat β] [DArgs A] {D : Ends} {sts bd be : List Stmt}
/-! ### loops -/
end
end Inn
set_option Elab.async false
set_option linter.all false
set_option maxRecDepth 100000
set_option maxHeartbeats 4000000
namespace Inn
open PySem L2 PySem.Spec PyProof.Rows
open Dat (Is)
section
variable {X : Cx} {W : Wld} {σ : L2.St} {H : Hp} {pos p apos : Pos} {a b c e o : Expr} {es : List Expr} {nm : Str} {k : Nat} {α β γ A : Type} [Dat α] [Dat β] [Dat γ] [DArgs A]
/-- a block's element, whatever the block -/
def Bx (X : Cx) (W : Wld) (scope : Scope) (e : Expr) (σ : L2.St) (H : Hp) (P : α → Prop) : Prop :=
  ∀ (s : Shared) (H' : Hp) (C : Addr) (cl : List (Str × Addr)) (fp : List Addr), Dx (X.blk s H' scope (compEnvC scope cl C X.env) fp) W e σ H P
def tBx (X : Cx) (scope : Scope) (e : Expr) : TE := fun σ H Q => ∀ (s : Shared) (H' : Hp) (C : Addr) (cl : List (Str × Addr)) (fp : List Addr), ∃ t, PE (X.blk s H' scope (compEnvC scope cl C X.env) fp) e t ∧ t σ H Q
theorem pe_tBx {scope : Scope} {s : Shared} {H' : Hp} {C : Addr} {cl : List (Str × Addr)} {fp : List Addr} : PE (X.blk s H' scope (compEnvC scope cl C X.env) fp) e (tBx X scope e) :=
  ⟨fun pins s1 σ H Q I h => let ⟨t, pt, q⟩ := h s H' C cl fp; pt.run pins s1 σ H Q I q⟩
theorem Bx.ev {scope : Scope} {P : α → Prop} (h : Bx X W scope e σ H P) : Ev W (tBx X scope e) σ H P := fun H1 u hI Q q s H' C cl fp =>
  let ⟨t, pt, ev⟩ := h s H' C cl fp
  ⟨t, pt, ev H1 u hI Q q⟩
/-- what a comprehension has made of the first items: each as R says -/
inductive Mapd (R : α → β → Prop) : List α → List β → Prop
  | nil : Mapd R [] []
  | snoc {xs : List α} {ys : List β} {x : α} {y : β} : Mapd R xs ys → R x y → Mapd R (xs ++ [x]) (ys ++ [y])
theorem Mapd.eq {f : α → β} {xs : List α} {ys : List β} (h : Mapd (fun x y => y = f x) xs ys) : ys = xs.map f := by
  induction h with
  | nil => rfl
  | snoc h r ih => rw [List.map_append, ih, r] <;> rfl
theorem Mapd.len {R : α → β → Prop} {xs : List α} {ys : List β} (h : Mapd R xs ys) : ys.length = xs.length := by
  induction h with
  | nil => rfl
  | snoc h r ih => simp [ih]
/-- a comprehension: as a value, or set to a name -/
def Dc (X : Cx) (W : Wld) (e : Expr) (σ : L2.St) (H : Hp) (P : α → Prop) : Prop := ∃ te, PE X e te ∧ (∀ {i : Nat} {y : Str} {py spos : Pos}, X.N[i]? = some y → X.env.scope.names.lookup y = some .local → swapsWith e (some (.Name y py)) spos.line X.env = pure true → PS X (.Assign [.Name y py] e spos) (tAsg te (gName i))) ∧ Ev W te σ H P
theorem Dc.dx {P : α → Prop} (h : Dc X W e σ H P) : Dx X W e σ H P := let ⟨te, pe, _, ev⟩ := h; ⟨te, pe, ev⟩
theorem Dc.imp {P R : α → Prop} (h : Dc X W e σ H P) (f : ∀ x, P x → R x) : Dc X W e σ H R := let ⟨te, pe, ps, ev⟩ := h; ⟨te, pe, ps, fun H1 u hI Q q => ev H1 u hI Q fun v H2 x u2 i2 hx px => q v H2 x u2 i2 hx (f x px)⟩
end
end Inn
set_option Elab.async false
set_option linter.all false
set_option maxRecDepth 100000
set_option maxHeartbeats 4000000
namespace Inn
open PySem L2 PySem.Spec PyProof.Rows
open Dat (Is)
/-! ### defs that show texts of lists: no text is being made around them -/
/-- a def's promise where no repr runs -/
structure FnG (P : Program) (w : World) (K : PySem.W.Frag) (mg : Str → Option Value) (base : Heap) (k : Nat) (f : Addr) (fd : FuncData) (ps : List Str) (sp : Sp) : Prop where
  ln : ∀ vs H Q E, sp vs H Q E → vs.length = ps.length
  go : ∀ (A : Around) (fr : List Env) (s : Shared) (H : Hp) (args : Args) (us : List Value) (vs : List V) (Q : VK), A.guards = some [] → Room k A → Env0 P w K mg base A fr s H → BindsTo s fd args (ps.zip us) → Vals vs us → sp vs H Q E0 →
    codeAny (model P w) A (.call (.ref f) args) (fun r s' => ∃ u, r = .ok (.ret u) ∧ CE fr P w H s Q u s') s
section
variable {P : Program} {w : World} {K : PySem.W.Frag} {mg : Str → Option Value} {base : Heap} {k : Nat} {f : Addr} {fd : FuncData} {N ps : List Str} {sp : Sp}
theorem FnG.of (F : FnOk P w K mg base CX0 k f fd ps sp) : FnG P w K mg base k f fd ps sp :=
  ⟨F.len, fun A fr s H args us vs Q _ hr he hb hv hs => codeAny_mono (F.run A fr s H args us vs Q E0 hr he hb hv hs) fun r s' h => by
    cases r with
    | error e => exact False.elim h
    | ok fl => cases fl with
      | ret u => exact ⟨u, rfl, h⟩
      | next => exact False.elim h
      | brk => exact False.elim h
      | cont => exact False.elim h⟩
theorem fnG_of {x qual : Str} {st : Stmt} (F : Fun K x qual st f fd) (S : FnScope N ps (defScope st)) (ln : ∀ vs H Q E, sp vs H Q E → vs.length = ps.length)
    (body : ∀ (cdv : Value) (A : Around) (fr : List Env) (s : Shared) (H : Hp) (vs : List V) (Q : VK), A.guards = some [] → Room k (A.deeper (envOfC qual (defScope st) s.heap.objs.size f cdv)) → sp vs H Q E0 →
      Wss (cxOf CX0 P w K mg base N qual (defScope st) f cdv A fr s H E0).nox (defBody st) { nx := fun _ H' => Q .non H', rt := Q } (start N vs) H) : FnG P w K mg base (k + 1) f fd ps sp := by
  obtain ⟨oc, od, kV, doc, pm, an, cdv, ct, osl, rfl, lk, hcd⟩ := F.ex
  refine ⟨ln, fun A fr s H args us vs Q hG hr e0 hb rv hsp => ?_⟩
  have there : K.In s.heap := e0.mod.kin.keeps fun b o z => (e0.bs b o z).1
  have open_ : s.heap.NoLimit := e0.mod.nolimit.keeps fun b o z => (e0.bs b o z).1
  have kinds : ∀ y ∈ ps.zip us, (defScope st).names.lookup y.1 = some .local ∨ ((defScope st).names.lookup y.1 = some .cell ∧ ((cellsFrom (s.heap.objs.size + 1) (defScope st).names []).lookup y.1).isSome = true) := by
    rintro ⟨n, v⟩ hy
    exact (S.par n (List.of_mem_zip hy).1).imp id fun q => ⟨q, PySem.W.cellsFrom_some _ _ _ (.inl q)⟩
  have code := PySem.W.codeRec_of there hcd
  apply codeAny_call_function hr.depth (there _ _ lk) rfl S.co S.gen rfl code
  apply hb
  apply wpAny_newFunctionEnv_cells S.kind kinds
  intro env he s1 ic
  subst he
  refine ⟨open_.keeps ic.toInCall.keep, codeAny_func ?_⟩
  obtain ⟨t, pt, q⟩ := body cdv A fr s H vs Q hG (hr.deeper _) hsp
  have inv := inv_start (CX := CX0) (E := E0) S hr.hd e0 (ln _ _ _ _ hsp) rv ic
  have done := pt.run [] s1 _ H _ (inv.wish _) q
  refine wpAny_mono done (fun fl s' hs => ?_) fun _ _ z => z.elim
  cases fl with
  | ret u =>
    obtain ⟨v, σ', H', J, rv', q'⟩ := hs
    exact ⟨u, rfl, v, H', J.os, J.bare, J.base, J.hok, rv', q'⟩
  | next =>
    obtain ⟨σ', H', J, q'⟩ := hs
    exact ⟨Value.none, rfl, V.non, H', J.os, J.bare, J.base, J.hok, rfl, q'⟩
  | brk => exact hs.elim fun _ z => z.elim fun _ z => z.2.elim
  | cont => exact hs.elim fun _ z => z.elim fun _ z => z.2.elim
end
/-- .. of the module -/
structure DefG (P : Program) (w : World) (K : PySem.W.Frag) (mg : Str → Option Value) (base : Heap) (k : Nat) (nm : Str) (ps : List Str) (sp : Sp) : Prop where
  ex : ∃ f fd, FnG P w K mg base k f fd ps sp ∧ mg nm = some (.ref f) ∧ PySem.W.keepIn K (.ref f) = true ∧ Binds K fd ps []
theorem run_G {X : Cx} {k : Nat} {f : Addr} {fd : FuncData} {ps : List Str} {sp : Sp} {pins : List (Addr × Obj)} {σ : L2.St} {H : Hp} {s : Shared} {Q : VK} {us : List Value} {vs : List V} (F : FnG X.prog X.w X.K X.mg X.base k f fd ps sp) (hG : X.A.guards = some []) (hr : Room k X.A) (hb : Binds X.K fd ps [])
    (I : Inv X pins σ H s) (rv : Vals vs us) (h : sp vs H Q E0) : wpAny (model X.prog X.w) X.A (call (.ref f) us) (EP X pins σ Q) X.xe s := by
  have hl : us.length = ps.length := by rw [← rv.length]; exact F.ln _ _ _ _ h
  have b := hb s us I.kIn (by rw [List.append_nil]; exact hl)
  rw [List.append_nil] at b
  refine wpAny_call (codeAny_mono (F.go X.A X.stack s H ⟨us, []⟩ us vs Q hG hr I.env0 b rv h) fun r s' ⟨u, er, ce⟩ => ?_)
  subst er
  exact I.after ce
section
variable {α β A : Type} [Dat α] [Dat β] [DArgs A] {X : Cx} {W : Wld} {σ : L2.St} {H : Hp} {pos p : Pos} {e : Expr} {es : List Expr} {k : Nat} {nm : Str} {ps : List Str} {pre : A → Prop} {R : A → β → Prop}
end
/-! ### repr of data -/
class PyR (α : Type) [Dat α] where
  py : α → PyData
  dp : ∀ {K : PySem.W.Frag} {W : Wld} {H : Hp} {u : V} {x : α}, Is W H u x → Dp K H u (py x)
  nd : ∀ x : α, (py x).hasDict = false
  dep : Nat
  le : ∀ x : α, (py x).depth ≤ dep
instance : PyR Int := ⟨.int, fun h => by cases h; exact .int _, fun _ => rfl, 0, fun _ => Nat.le_refl _⟩
instance : PyR Bool := ⟨.bool, fun h => by cases h; exact .bl _, fun _ => rfl, 0, fun _ => Nat.le_refl _⟩
theorem dpAllR {α : Type} [Dat α] [PyR α] {K : PySem.W.Frag} {W : Wld} {H : Hp} : ∀ {us : List V} {xs : List α}, Paired (fun u x => Is W H u x) us xs → DpAll K H us (xs.map PyR.py)
  | _, _, .nil => .nil
  | _, _, .cons h t => .cons (PyR.dp h) (dpAllR t)
theorem ndAllR {α : Type} [Dat α] [PyR α] : ∀ (xs : List α), PyData.hasDictAll (xs.map PyR.py) = false
  | [] => rfl
  | x :: xs => by
    show (PyData.hasDict _ || PyData.hasDictAll _) = false
    rw [PyR.nd, ndAllR xs]
    rfl
theorem depAllR {α : Type} [Dat α] [PyR α] : ∀ (xs : List α), PyData.depthAll (xs.map PyR.py) ≤ PyR.dep α
  | [] => Nat.zero_le _
  | x :: xs => by
    have h1 := PyR.le x
    have h2 := depAllR xs
    show max (PyData.depth _) (PyData.depthAll _) ≤ _
    omega
instance {α : Type} [Dat α] [PyR α] : PyR (List α) where
  py xs := .list (xs.map PyR.py)
  dp h := by
    obtain ⟨p, us, rfl, n, e, h1⟩ := h
    exact .lst (SqL.of e) (dpAllR h1)
  nd xs := ndAllR xs
  dep := PyR.dep α + 1
  le xs := Nat.succ_le_succ (depAllR xs)
/-- an int or a bool -/
inductive Ib where
  | i (n : Int) | b (k : Bool)
instance : Dat Ib := ⟨fun _ _ v x => match x with | .i n => v = .int n | .b k => v = .bl k, fun {_ _ _ _ x} _ h => by cases x <;> exact h⟩
instance : PyR Ib := ⟨fun x => match x with | .i n => .int n | .b k => .bool k, fun {K W H u x} h => by
  cases x with
  | i n => cases h; exact .int _
  | b k => cases h; exact .bl _, fun x => by cases x <;> rfl, 0, fun x => by cases x <;> exact Nat.le_refl _⟩
section
variable {X : Cx} {W : Wld} {σ : L2.St} {H : Hp} {pos p : Pos} {e : Expr} {α : Type} [Dat α]
end
end Inn
set_option Elab.async false
set_option linter.all false
set_option maxRecDepth 100000
set_option maxHeartbeats 4000000
namespace Inn
open PySem L2 PySem.Spec PyProof.Rows
open Dat (Is)
/-! ### the list that a law draws from -/
def PotL (a b : Int) : HO := .lst [.int a, .int b]
/-- the world lets the two numbers at l change -/
structure PotW (W : Wld) (l : Addr) : Prop where
  m : W.M l
  rd : ∀ {H}, W.I H → ∃ a b : Int, 0 ≤ a ∧ 0 ≤ b ∧ b < 2 ^ 40 ∧ H l = some (PotL a b)
  wr : ∀ {H} (a b : Int), W.I H → 0 ≤ a → 0 ≤ b → b < 2 ^ 40 → W.I (upd H l (PotL a b))
structure Pot where
  l : Addr
instance : Dat Pot := ⟨fun W _ v x => v = .ref x.l ∧ PotW W x.l, fun _ h => h⟩
/-- only the pot changes -/
def Wp (l : Addr) : Wld where
  M a := a = l
  I H := ∃ a b : Int, 0 ≤ a ∧ 0 ≤ b ∧ b < 2 ^ 40 ∧ H l = some (PotL a b)
  st h k := by
    obtain ⟨a, b, h1, h2, h3, h4⟩ := h
    exact ⟨a, b, h1, h2, h3, by rw [k _ rfl]; exact h4⟩
  al h m := by
    obtain ⟨a, b, h1, h2, h3, h4⟩ := h
    exact ⟨_, by rw [m]; exact h4⟩
theorem pot_wp (l : Addr) : PotW (Wp l) l := ⟨rfl, fun h => h, fun a b _ h1 h2 h3 => ⟨a, b, h1, h2, h3, upd_same⟩⟩
theorem up_pot {W : Wld} {H : Hp} {l : Addr} {o : HO} (m : W.M l) : Up W H (upd H l o) := fun a u n e => by
  rw [upd_ne (show a ≠ l from fun z => n (by rw [z]; exact m))]
  exact e
section
variable {X : Cx} {W : Wld} {σ : L2.St} {H : Hp} {pos p apos : Pos} {a b c e o : Expr} {es : List Expr} {nm : Str} {k : Nat} {α β γ A : Type} [Dat α] [Dat β] [Dat γ] [DArgs A] {D : Ends} {sts : List Stmt} {x : Pot}
theorem dx_pot0 {i : Expr} (h : Dx X W a σ H (· = x)) (hi : Dx X W i σ H (fun z : Int => z = 0)) (hs : PlainIx i := by exact fun _ _ => rfl) : Dx X W (.Subscript a i pos) σ H (fun y : Int => 0 ≤ y) := by
  obtain ⟨ta, pa, va⟩ := h
  obtain ⟨ti, pi, vi⟩ := hi
  refine ⟨_, pe_ix ix_list pa pi hs, fun H1 u hI Q q => va H1 u hI _ fun v H2 z u2 i2 hz pz => vi H2 (u.trans u2) i2 _ fun w H3 n u3 i3 hn pn => ?_⟩
  subst pz; subst pn
  obtain ⟨rfl, P⟩ := hz
  cases hn
  obtain ⟨c, d, h1, h2, h3, e⟩ := P.rd i3
  exact ⟨z.l, [.int c, .int d], 0, .int c, rfl, rfl, SqL.of e, rfl, q _ H3 c (u2.trans u3) i3 rfl h1⟩
theorem dx_pot1 {i : Expr} (h : Dx X W a σ H (· = x)) (hi : Dx X W i σ H (fun z : Int => z = 1)) (hs : PlainIx i := by exact fun _ _ => rfl) : Dx X W (.Subscript a i pos) σ H (fun y : Int => 0 ≤ y ∧ y < 2 ^ 40) := by
  obtain ⟨ta, pa, va⟩ := h
  obtain ⟨ti, pi, vi⟩ := hi
  refine ⟨_, pe_ix ix_list pa pi hs, fun H1 u hI Q q => va H1 u hI _ fun v H2 z u2 i2 hz pz => vi H2 (u.trans u2) i2 _ fun w H3 n u3 i3 hn pn => ?_⟩
  subst pz; subst pn
  obtain ⟨rfl, P⟩ := hz
  cases hn
  obtain ⟨c, d, h1, h2, h3, e⟩ := P.rd i3
  exact ⟨z.l, [.int c, .int d], 1, .int d, rfl, rfl, SqL.of e, rfl, q _ H3 d (u2.trans u3) i3 rfl ⟨h2, h3⟩⟩
/-- pot[1] = e -/
theorem wss_pot1 {P : Int → Prop} {i : Expr} {ps : Pos} (he : Dx X W e σ H P) (h : ∀ H', Dx X W a σ H' (· = x)) (hi : ∀ H', Dx X W i σ H' (fun z : Int => z = 1)) (hI : W.I H) (hP : ∀ n, P n → 0 ≤ n ∧ n < 2 ^ 40) (q : ∀ H1, Up W H H1 → W.I H1 → Wss X sts D σ H1)
    (ha : ∀ v, assign (.Subscript a i ps) X.env v = (do
      let ov ← holding [v] (eval a X.env)
      let iv ← holding [v, ov] (eval i X.env)
      standAt ps
      holding [v, ov, iv] (setItem ov iv v)
      release [v, ov, iv] []) := by intro _; rfl) (hs : swapsWithSole [.Subscript a i ps] e pos.line X.env = pure false := by rfl) (hw : swappedStores [.Subscript a i ps] e X.env = pure none := by rfl)
    (h1 : (assignEach [.Subscript a i ps] X.env).map (·.2) = [assign (.Subscript a i ps) X.env] := by rfl) : Wss X (.Assign [.Subscript a i ps] e pos :: sts) D σ H := by
  obtain ⟨te, pe, ev⟩ := he
  obtain ⟨ta, pa, va⟩ := h H
  obtain ⟨ti, pi, vi⟩ := hi H
  refine ⟨_, pss_cons (ps_asg pe (pg_sub pa pi set_list ha) hs hw h1) wss_all, ev H (Up.refl _) hI _ fun v H1 n u1 i1 hn pn => va H1 u1 i1 _ fun ov H2 z u2 i2 hz pz => vi H2 (u1.trans u2) i2 _ fun iv H3 m u3 i3 hm pm => ?_⟩
  subst pz; subst pm
  obtain ⟨rfl, PW⟩ := hz
  cases hn
  cases hm
  obtain ⟨c, d, h1, h2, h3, e⟩ := PW.rd i3
  obtain ⟨n0, n1⟩ := hP n pn
  exact ⟨z.l, [.int c, .int d], 1, 1, rfl, rfl, e, rfl, q _ (((u1.trans u2).trans u3).trans (up_pot PW.m)) (PW.wr c n i3 h1 n0 n1)⟩
/-- pot[0], digit = divmod(..) -/
theorem wss_pot0 (j : Nat) {P : Int × Int → Prop} {i : Expr} {ps pn pt : Pos} {kt : Nat} (he : Dx X W e σ H P) (h : ∀ H', Dx X W a σ H' (· = x)) (hi : ∀ H', Dx X W i σ H' (fun z : Int => z = 0)) (hI : W.I H) (hP : ∀ n, P n → 0 ≤ n.1) (nd : X.N.Nodup) (hc : X.calm = true)
    (q : ∀ H1 (n : Int × Int), P n → Up W H H1 → W.I H1 → Wss X sts D (σ.set j (some (.int n.2))) H1) (hN : X.N[j]? = some nm := by rfl) (hx : L2.Loc X.env.scope nm := by first | exact Or.inl rfl | exact Or.inr rfl) (hf : X.fn nm = true ∨ X.env.scope.names.lookup nm = some .local := by first | exact .inl rfl | exact .inr rfl)
    (ha : ∀ v, assign (.Subscript a i ps) X.env v = (do
      let ov ← holding [v] (eval a X.env)
      let iv ← holding [v, ov] (eval i X.env)
      standAt ps
      holding [v, ov, iv] (setItem ov iv v)
      release [v, ov, iv] []) := by intro _; rfl)
    (ha1 : (assignEach (.Subscript a i ps :: [.Name nm pn]) X.env).map (·.2) = assign (.Subscript a i ps) X.env :: (assignEach [.Name nm pn] X.env).map (·.2) := by rfl) (ha2 : (assignEach (.Name nm pn :: []) X.env).map (·.2) = assign (.Name nm pn) X.env :: (assignEach [] X.env).map (·.2) := by rfl)
    (hn : (assignEach [.Subscript a i ps, .Name nm pn] X.env).length = 2 := by rfl) (hst : (assignEach [.Subscript a i ps, .Name nm pn] X.env).findIdx? (·.1) = none := by rfl)
    (hs : swapsWithSole [.Tuple [.Subscript a i ps, .Name nm pn] kt pt] e pos.line X.env = pure false := by rfl) (hw : swappedStores [.Tuple [.Subscript a i ps, .Name nm pn] kt pt] e X.env = pure none := by rfl)
    (h1 : (assignEach [.Tuple [.Subscript a i ps, .Name nm pn] kt pt] X.env).map (·.2) = [assign (.Tuple [.Subscript a i ps, .Name nm pn] kt pt) X.env] := by rfl) : Wss X (.Assign [.Tuple [.Subscript a i ps, .Name nm pn] kt pt] e pos :: sts) D σ H := by
  obtain ⟨te, pe, ev⟩ := he
  obtain ⟨ta, pa, va⟩ := h H
  obtain ⟨ti, pi, vi⟩ := hi H
  refine ⟨_, pss_cons (ps_asg pe (pg_tup hc (pgs_cons (pg_sub pa pi set_list ha) (pgs_cons (pg_name (i := j) nd hN hx hf) pgs_nil ha2) ha1) hn hst) hs hw h1) wss_all, ev H (Up.refl _) hI _ fun v H1 n u1 i1 hn pn => ?_⟩
  obtain ⟨pp, w1, w2, rfl, nM, e2, z1, z2⟩ := hn
  refine ⟨pp, _, rfl, SqT.of e2, rfl, w1, [w2], rfl, va H1 u1 i1 _ fun ov H2 z u2 i2 hz pz => vi H2 (u1.trans u2) i2 _ fun iv H3 m u3 i3 hm pm => ?_⟩
  subst pz; subst pm
  obtain ⟨rfl, PW⟩ := hz
  cases hm
  cases z1
  cases z2
  obtain ⟨c, d, h1, h2, h3, e⟩ := PW.rd i3
  exact ⟨z.l, [.int c, .int d], 0, 0, rfl, rfl, e, rfl, _, [], rfl, rfl, q _ n pn (((u1.trans u2).trans u3).trans (up_pot PW.m)) (PW.wr n.1 d i3 (hP n pn) h2 h3)⟩
/-- what a draw tells -/
def DrawPre : Cns Pot (Cns Int Nil) → Prop := fun a => 0 < a.t.h ∧ a.t.h < 2 ^ 30
def DrawR : Cns Pot (Cns Int Nil) → Int → Prop := fun a y => 0 ≤ y ∧ y < a.t.h
end
/-! ### a, b = a pair; self.f = an int -/
section
variable {X : Cx} {W : Wld} {σ : L2.St} {H : Hp} {pos : Pos} {e : Expr} {α β : Type} [Dat α] [Dat β] {D : Ends} {sts : List Stmt}
/-- one object alone changes, and is o -/
def Wx (p : Addr) (o : HO) : Wld where
  M a := a = p
  I H := H p = some o
  st h k := by rw [k _ rfl]; exact h
  al h m := ⟨o, by rw [m]; exact h⟩
end
end Inn
set_option Elab.async false
set_option linter.all false
set_option maxRecDepth 100000
set_option maxHeartbeats 4000000
namespace Inn
open PySem L2 PySem.Spec PyProof.Rows
open Dat (Is)
section
variable {α β A : Type} [Dat α] [Dat β] [DArgs A] {X : Cx} {W : Wld} {σ : L2.St} {H : Hp} {pos p apos : Pos} {a b c e o : Expr} {es rest : List Expr} {k : Nat} {nm : Str} {ps : List Str} {pre : A → Prop} {g : A → β} {C : Addr} {r : Rt C} {x : A}
end
end Inn
set_option Elab.async false
set_option linter.all false
set_option maxRecDepth 100000
set_option maxHeartbeats 4000000
namespace Inn
open PySem L2 PySem.Spec PyProof.Rows
open Dat (Is)
/-! ### arguments by name -/
/-- how a def binds n values by place and the names ks -/
structure KwF (K : PySem.W.Frag) (fd : FuncData) (ps : List Str) (n : Nat) (ks : List Str) (gV : List V → List V → List V) : Prop where
  ex : ∃ g, KBn K fd ps n ks g gV
section
variable {X : Cx} {W : Wld} {σ : L2.St} {H : Hp} {pos p apos kpos : Pos} {a b c e o : Expr} {es : List Expr} {k : Nat} {nm m : Str} {α β γ A : Type} [Dat α] [Dat β] [Dat γ] [DArgs A] {ps ks : List Str} {f C : Addr} {fd : FuncData} {sp : Sp} {kws : List Keyword} {gV : List V → List V → List V}
theorem run_kw {pins : List (Addr × Obj)} {s : Shared} {Q : VK} {us ws : List Value} {vs zs : List V} (F : FnOk X.prog X.w X.K X.mg X.base CX0 k f fd ps sp) (hr : Room k X.A) {n : Nat} (hb : KwF X.K fd ps n ks gV)
    (I : Inv X pins σ H s) (r : Vals vs us) (rz : Vals zs ws) (l1 : vs.length = n) (l2 : zs.length = ks.length) (h : sp (gV vs zs) H Q E0) :
    codeAny (model X.prog X.w) X.A (.call (.ref f) ⟨us, ks.zip ws⟩) (fun r s' => match r with | .ok (.ret v) => EP X pins σ Q v s' | .ok _ => False | .error e => X.xe e s') s := by
  obtain ⟨g, hb⟩ := hb.ex
  refine codeAny_mono (F.run X.A X.stack s H ⟨us, ks.zip ws⟩ (g us ws) (gV vs zs) Q E0 hr I.env0 (hb.to s us ws I.kIn (r.length.symm.trans l1) (rz.length.symm.trans l2)) (hb.rel r rz) h) fun r s' hq => ?_
  cases r with
  | error e => exact False.elim hq
  | ok fl =>
    cases fl with
    | ret u => exact I.after hq
    | next => exact False.elim hq
    | brk => exact False.elim hq
    | cont => exact False.elim hq
/-- a def, called by names alone -/
structure KDef (P : Program) (w : World) (K : PySem.W.Frag) (mg : Str → Option Value) (base : Heap) (k : Nat) (nm : Str) (ps ks : List Str) (gV : List V → List V → List V) (sp : Sp) : Prop where
  ex : ∃ f fd, FnOk P w K mg base CX0 k f fd ps sp ∧ mg nm = some (.ref f) ∧ PySem.W.keepIn K (.ref f) = true ∧ KwF K fd ps 0 ks gV
/-- a method, called by names alone -/
structure KMDef (P : Program) (w : World) (K : PySem.W.Frag) (mg : Str → Option Value) (base : Heap) (k : Nat) (C : Addr) (nm : Str) (ps ks : List Str) (sp : Sp) : Prop where
  ex : ∃ f fd, FnOk P w K mg base CX0 k f fd ps sp ∧ Meth K C nm f ∧ KwF K fd ps 1 ks (· ++ ·)
/-- the class, called by both names, the last first -/
structure KCDef (P : Program) (w : World) (K : PySem.W.Frag) (mg : Str → Option Value) (base : Heap) (k : Nat) (C : Addr) (nm : Str) : Prop where
  ex : ∃ f fd g, FnOk P w K mg base CX0 k f fd ["self", "top", "bottom"] (spInit C) ∧ Mk K C f ∧ mg nm = some (.ref C) ∧ KBn K fd ["self", "top", "bottom"] 1 ["bottom", "top"] g (fun vs zs => vs ++ zs.reverse)
/-! ### classes as values -/
structure Cl where
  u : V
instance : Dat Cl := ⟨fun _ _ v x => v = x.u, fun _ h => h⟩
/-! ### classmethods -/
structure CmDef (P : Program) (w : World) (K : PySem.W.Frag) (mg : Str → Option Value) (base : Heap) (k : Nat) (C : Addr) (nm : Str) (ps ks : List Str) (sp : Sp) : Prop where
  ex : ∃ f fd mc p, FnOk P w K mg base CX0 k f fd ps sp ∧ ClX.CRead K C mc ∧ ClX.CMet K C mc nm p f ∧ Binds K fd ps [] ∧ KwF K fd ps 1 ks (· ++ ·)
end
end Inn
set_option Elab.async false
set_option linter.all false
set_option maxRecDepth 100000
set_option maxHeartbeats 4000000
namespace Inn
open PySem L2 PySem.Spec PyProof.Rows
open Dat (Is)
/-! ### a list, or a tuple of any length -/
structure Sq (α : Type) where
  tp : Bool
  l : List α
def Sq.ho (tp : Bool) (us : List V) : HO := if tp = true then .tup us else .lst us
instance {α : Type} [Dat α] : Dat (Sq α) where
  Is W H v x := ∃ p us, v = .ref p ∧ ¬ W.M p ∧ H p = some (Sq.ho x.tp us) ∧ Paired (fun u y => Is W H u y) us x.l
  up e h := by
    obtain ⟨p, us, e1, n, e2, h1⟩ := h
    exact ⟨p, us, e1, n, e p _ n e2, paired_up e h1⟩
instance {α : Type} [Dat α] [Gr α] : Gr (Sq α) := ⟨fun hD h => by
  obtain ⟨p, us, e1, n, e2, h1⟩ := h
  exact ⟨p, us, e1, gr_M n hD e2, e2, paired_gr hD h1⟩⟩
instance {α : Type} [Dat α] [Wk α] : Wk (Sq α) := ⟨fun m h => by
  obtain ⟨p, us, e1, n, e2, h1⟩ := h
  exact ⟨p, us, e1, fun z => n (m _ z), e2, paired_wk m h1⟩⟩
section
variable {X : Cx} {W : Wld} {σ : L2.St} {H : Hp} {pos p p1 p2 apos : Pos} {a b c e o : Expr} {es : List Expr} {nm : Str} {k : Nat} {α β γ A : Type} [Dat α] [Dat β] [Dat γ] [DArgs A] {C : Addr}
end
end Inn
set_option Elab.async false
set_option linter.all false
set_option maxRecDepth 100000
set_option maxHeartbeats 4000000
namespace Inn
open PySem L2 PySem.Spec PyProof.Rows
open Dat (Is)
section
variable {X : Cx} {W : Wld} {σ : L2.St} {H : Hp} {pos : Pos} {a b c e : Expr} {es : List Expr} {α β γ A : Type} [Dat α] [Dat β] [Dat γ] [DArgs A] {D : Ends} {sts : List Stmt}
end
end Inn
set_option Elab.async false
set_option linter.all false
set_option maxRecDepth 100000
set_option maxHeartbeats 4000000
namespace Inn
open PySem L2 PySem.Spec PyProof.Rows
open Dat (Is)
section
variable {X : Cx} {W : Wld} {σ : L2.St} {H : Hp} {pos p : Pos} {a b c e : Expr} {es : List Expr} {nm : Str} {α β γ A : Type} [Dat α] [Dat β] [Dat γ] [DArgs A] {D : Ends} {sts bd : List Stmt} {C : Addr}
end
end Inn
set_option Elab.async false
set_option linter.all false
set_option maxRecDepth 100000
set_option maxHeartbeats 4000000
namespace Inn
open PySem L2 PySem.Spec PyProof.Rows
open Dat (Is)
/-! ### the script, as the caller hands it -/
structure Scr (K : PySem.W.Frag) where
  l : List Int
instance {K : PySem.W.Frag} : Dat (Scr K) where
  Is W H v x := ∃ a, v = .ref a ∧ ¬ W.M a ∧ SqL K H a (x.l.map V.int)
  up e h := by
    obtain ⟨a, e1, n, h1⟩ := h
    refine ⟨a, e1, n, ?_⟩
    rcases h1 with h1 | h1
    · refine .inl ?_
      rcases h1 with h1 | ⟨o, h1⟩
      · exact .inl (e a _ n h1)
      · exact .inr ⟨o, e a _ n h1⟩
    · exact .inr h1
section
variable {X : Cx} {W : Wld} {σ : L2.St} {H : Hp} {pos p : Pos} {a e i : Expr} {x : Scr X.K}
theorem dx_lenS (h : Dx X W e σ H (· = x)) (hm : X.mg "len" = none) (hg : Gl X "len" := by rfl) (hs : starEach (e :: []) X.env = (false, eval e X.env) :: starEach [] X.env := by rfl) (hpl : (backTo pos (starEach [] X.env)).any (·.1) = false := by rfl) :
    Dx X W (.Call (.Name "len" p) [e] [] pos) σ H (fun y : Int => y = (x.l.length : Nat)) := dx_cb1 call_len_seq h hm PySem.boot_len (fun v H1 y Q _ hI hx px q => by
  subst px
  obtain ⟨b, e0, n, h1⟩ := hx
  subst e0
  have q' : Q (.int ((y.l.map V.int).length : Nat)) H1 := by
    rw [List.length_map]
    exact q _ H1 _ (Up.refl _) hI rfl rfl
  exact ⟨b, _, rfl, .inl h1, q'⟩) hg (hs := hs) (hpl := hpl)
theorem dx_ixS {n : Nat} {z : Int} (h : Dx X W a σ H (· = x)) (hi : Dx X W i σ H (fun z : Int => z = n)) (hx : x.l[n]? = some z) (hs : PlainIx i := by exact fun _ _ => rfl) : Dx X W (.Subscript a i pos) σ H (· = z) := by
  obtain ⟨ta, pa, va⟩ := h
  obtain ⟨ti, pi, vi⟩ := hi
  refine ⟨_, pe_ix ix_list pa pi hs, fun H1 u hI Q q => va H1 u hI _ fun v H2 y u2 i2 hy py => vi H2 (u.trans u2) i2 _ fun w H3 m u3 i3 hm pm => ?_⟩
  subst py; subst pm
  obtain ⟨b, e0, nM, h1⟩ := Dat.up u3 hy
  subst e0
  cases hm
  have hw : (y.l.map V.int)[n]? = some (.int z) := by rw [List.getElem?_map, hx]; rfl
  exact ⟨b, _, n, _, rfl, rfl, h1, atI_nat hw, q _ H3 _ (u2.trans u3) i3 rfl rfl⟩
end
/-! ### the law's call, where no text is being made -/
section
variable {P : Program} {w : World} {K : PySem.W.Frag} {mg mb : Str → Option Value} {k : Nat} {fa a : Addr} {fd : FuncData} {x : Str} {sp : Sp} {s1 : Shared} {vs : List Value} {ns : List Int}
/-- the law's def is run over the abstract heap T, in which the script alone may stand -/
theorem callG_core {T : Hp} (inK : K.In s1.heap) (gl : s1.heap.Ns mainGlobals mg) (bn : s1.heap.Ns builtinsNs mb) (bo : ∀ x : Str, x ≠ "__name__" → mb x = bootBuiltins x) (nl : s1.heap.NoLimit) (ge : s1.gens = #[])
    (obj : s1.heap.get? a = some { cls := .type "list", data := .seq vs.toArray }) (rm : Room k callerA)
    (F : ∀ base : Heap, K.In base → base.Ns mainGlobals mg → FnG P w K mg base k fa fd [x] sp) (bd : ∀ (s : Shared) (u : Value), BindsTo s fd ⟨[u], []⟩ [(x, u)]) (okT : HOk P w T s1.heap)
    (onlyT : Only T) (hs : sp [.ref a] T (fun v _ => v = .bl true) E0) (at_ : ∀ c, T c ≠ none → c = a) (notK : T a ≠ none → K.lookup a = none) :
    codeAny (model P w) callerA (.call (.ref fa) ⟨[.ref a], []⟩) (fun r s' => r = .ok (.ret (.bool true)) ∧ OldK s1.heap s'.heap ∧ s'.os = s1.os ∧ AllBare s'.gens) s1 := by
  have free : ∀ {c : Addr} {u : Obj}, s1.heap.get? c = some u → (∀ z, u ≠ { cls := .type "list", data := .seq z }) → T c = none := fun {c u} g d => by
    by_cases z : T c = none
    · exact z
    · have ec := at_ c z
      rw [ec, obj] at g
      exact absurd (Option.some.inj g).symm (d _)
  have seen : ∀ {c : Addr} {u : Obj}, s1.heap.get? c = some u → T c = none → (hidT s1.heap T).get? c = some u := fun g z => hidT_get g z
  have spaces : ∀ {c : Addr} {m : Str → Option Value}, s1.heap.Ns c m → (hidT s1.heap T).Ns c m := by
    rintro c m ⟨u, en, ep, g, d, rest⟩
    refine ⟨u, en, ep, seen g (free g fun z h => ?_), d, rest⟩
    rw [h] at d
    exact absurd d (by intro h2; cases h2)
  have kept : K.In (hidT s1.heap T) := fun c u g => seen (inK c u g) (by
    by_cases z : T c = none
    · exact z
    · have ec := at_ c z
      rw [ec] at g z
      have := notK z
      rw [g] at this
      cases this)
  obtain ⟨lim, l1, l2⟩ := nl
  have module : Mod K mg (hidT s1.heap T) := ⟨kept, spaces gl, ⟨mb, spaces bn, bo⟩, lim, spaces l1, l2⟩
  have start0 : Env0 P w K mg (hidT s1.heap T) callerA [] s1 T := ⟨rfl, module, fun c u g => of_hidT g, Nat.le_of_eq (hidT_size _ _), trivial, (fun c hc => nomatch hc), okT, .of_eq ge⟩
  refine codeAny_mono ((F _ kept (spaces gl)).go callerA [] s1 T ⟨[.ref a], []⟩ [.ref a] [.ref a] _ rfl rm start0 (bd s1 (.ref a)) (.cons rfl .nil) hs) ?_
  rintro r s2 ⟨u, rfl, v, H2, os2, bare2, un2, ok2, rel2, ev⟩
  have ev : v = .bl true := ev
  subst ev
  have eu : u = Value.bool true := rel2
  subst eu
  refine ⟨rfl, OldK.of_keep fun c o g => ?_, os2, bare2⟩
  rcases onlyT c with z | ⟨ob, xs, z⟩
  · exact un2.keep c o g z (fun m => nomatch m) (by simp)
  · have later := un2.frzs c ob _ z
    obtain ⟨g1, _⟩ := okT c _ z
    obtain ⟨g2, _⟩ := ok2 c _ later
    rw [g] at g1
    cases g1
    exact g2
theorem callG (inK : K.In s1.heap) (gl : s1.heap.Ns mainGlobals mg) (bn : s1.heap.Ns builtinsNs mb) (bo : ∀ x : Str, x ≠ "__name__" → mb x = bootBuiltins x) (nl : s1.heap.NoLimit) (ge : s1.gens = #[])
    (obj : s1.heap.get? a = some { cls := .type "list", data := .seq vs.toArray }) (itz : IntsAre vs ns) (few : ns.length ≤ sizeLine) (rm : Room k callerA)
    (F : ∀ base : Heap, K.In base → base.Ns mainGlobals mg → FnG P w K mg base k fa fd [x] sp) (bd : ∀ (s : Shared) (u : Value), BindsTo s fd ⟨[u], []⟩ [(x, u)])
    (hs : ∀ T : Hp, Only T → SqL K T a (ns.map V.int) → sp [.ref a] T (fun v _ => v = .bl true) E0) :
    codeAny (model P w) callerA (.call (.ref fa) ⟨[.ref a], []⟩) (fun r s' => r = .ok (.ret (.bool true)) ∧ OldK s1.heap s'.heap ∧ s'.os = s1.os ∧ AllBare s'.gens) s1 := by
  have rel := vals_ints itz
  have lv := itz.length
  by_cases inside : K.lookup a = none
  · -- its own object: frozen
    let fz : HO := .frz { cls := .type "list", data := .seq vs.toArray } (.lst (ns.map V.int))
    let T : Hp := fun c => if c = a then some fz else none
    have Ta : T a = some fz := if_pos rfl
    have To : ∀ {c}, c ≠ a → T c = none := fun z => if_neg z
    have only : Only T := fun c => by
      by_cases z : c = a
      · exact .inr ⟨_, _, by rw [z]; exact Ta⟩
      · exact .inl (To z)
    refine callG_core (T := T) inK gl bn bo nl ge obj rm F bd (fun c u z => ?_) only (hs T only (.inl (.inr ⟨_, Ta⟩))) (fun c z => ?_) fun _ => inside
    · by_cases e : c = a
      · subst e
        rw [Ta] at z
        cases z
        exact ⟨obj, by rw [List.length_map]; exact few, vs, _, rel, obj⟩
      · rw [To e] at z
        cases z
    · by_cases e : c = a
      · exact e
      · exact absurd (To e) z
  · -- one of the module's objects
    obtain ⟨o, ho⟩ := Option.ne_none_iff_exists'.mp inside
    have same := inK a o ho
    rw [obj] at same
    cases same
    have none_ : Only fun _ => none := fun _ => .inl rfl
    refine callG_core (T := fun _ => none) inK gl bn bo nl ge obj rm F bd (fun c u z => nomatch z) none_ (hs _ none_ (.inr ⟨_, vs.toArray, _, ho, rfl, rfl, rfl, ?_, ?_⟩)) (fun c z => absurd rfl z) fun z => absurd rfl z
    · rw [List.size_toArray, lv]
      exact few
    · simpa using rel
end
end Inn
set_option Elab.async false
set_option linter.all false
set_option maxRecDepth 100000
set_option maxHeartbeats 4000000
namespace Inn
open PySem L2 PySem.Spec PyProof.Rows
/-! ### a head that tells one truth over the written part, and defs by places -/
def seeX (ok : PySem.W.Frag → Bool) (fn : List He5.DefA) (K : PySem.W.Frag) : He.AlD := (ok K && fn.all fun d => d.ok K, fn.map fun d => He5.fnA K (d.at_ K))
def dueX (fn : List He5.DefA) : He.AlD := (true, fn.map He5.DefA.val)
def TellX (ok : PySem.W.Frag → Bool) (fn : List He5.DefA) (K : PySem.W.Frag) : Prop := seeX ok fn K = dueX fn
theorem TellX.truth {ok : PySem.W.Frag → Bool} {fn : List He5.DefA} {K : PySem.W.Frag} (c : TellX ok fn K) : ok K = true := (He.ba (show (ok K && fn.all fun d => d.ok K) = true from congrArg (fun z : He.AlD => z.1) c)).1
theorem TellX.def_ {ok : PySem.W.Frag → Bool} {fn : List He5.DefA} {K : PySem.W.Frag} (c : TellX ok fn K) (i : Nat) {d : He5.DefA} (h : fn[i]? = some d := by rfl) : ∃ fd, L2.FunD K d.name d.qual d.params d.body d.scope (d.dvs K) (d.kws K) (d.at_ K) fd := by
  have c2 := (He.ba (show (ok K && fn.all fun d => d.ok K) = true from congrArg (fun z : He.AlD => z.1) c)).2
  have e : fn.map (fun d => He5.fnA K (d.at_ K)) = fn.map He5.DefA.val := congrArg (fun z : He.AlD => z.2) c
  have e2 := congrArg (fun l => l[i]?) e
  simp only [List.getElem?_map, h] at e2
  exact He5.DefA.funD (Option.some.inj e2) (List.all_eq_true.mp c2 d (List.mem_of_getElem? h))
end Inn
set_option Elab.async false
set_option linter.all false
set_option maxRecDepth 100000
set_option maxHeartbeats 4000000
/-! Data of any kind, one type: what a value is in the abstract heap; expressions by what they ask. -/
namespace Uv
open PySem L2 Inn PySem.Spec PyProof.Rows
/-- the program's classes by number: where each stands, its fields in their sequence -/
structure Ct where
  at_ : Nat → Addr
  fs : Nat → List Str
  n : Nat
  K : PySem.W.Frag
/-- a tuple of ints that stands since the head -/
def KTup (K : PySem.W.Frag) (p : Addr) (l : List Int) : Prop := ∃ (o : Obj) (its : Array Value) (n : Nat), K.lookup p = some o ∧ o.cls = .type "tuple" ∧ o.data = .seq its n ∧ its.size ≤ sizeLine ∧ Vals (l.map V.int) its.toList
theorem KTup.sq {K K' : PySem.W.Frag} {p : Addr} {l : List Int} {H : Hp} (h : KTup K p l) (e : K = K') : SqT K' H p (l.map V.int) := by
  subst e
  exact .inr h
inductive D where
  | int (i : Int) | bl (b : Bool) | str (x : Str) | non
  | lst (l : List D) | tup (l : List D) | dct (ks : List Key) (l : List D)
  | ins (c : Nat) (l : List D)
  | pot (a : Addr) | cls (v : V) | knw (l : List Int)
instance : Inhabited D := ⟨.non⟩
section
variable (T : Ct) (N : Addr → Prop) (Pt : Addr → Prop) (H : Hp)
mutual
inductive IsD : V → D → Prop
  | int {i : Int} : IsD (.int i) (.int i)
  | bl {b : Bool} : IsD (.bl b) (.bl b)
  | str {x : Str} : IsD (.str x) (.str x)
  | non : IsD .non .non
  | lst {p : Addr} {us : List V} {l : List D} (n : ¬ N p) (e : H p = some (.lst us)) (h : IsDs us l) : IsD (.ref p) (.lst l)
  | tup {p : Addr} {us : List V} {l : List D} (n : ¬ N p) (e : H p = some (.tup us)) (h : IsDs us l) : IsD (.ref p) (.tup l)
  | dct {p : Addr} {kvs : List (Key × V)} {ks : List Key} {l : List D} (n : ¬ N p) (e : H p = some (.dK kvs)) (hk : kvs.map Prod.fst = ks) (h : IsDs (kvs.map Prod.snd) l) : IsD (.ref p) (.dct ks l)
  | ins {p dx : Addr} {c : Nat} {us : List V} {l : List D} (hc : c < T.n) (n : ¬ N p) (e : H p = some (.ins (T.at_ c) dx ((T.fs c).zip us))) (hl : us.length = (T.fs c).length) (h : IsDs us l) : IsD (.ref p) (.ins c l)
  | pot {a : Addr} (h : Pt a) : IsD (.ref a) (.pot a)
  | cls {v : V} : IsD v (.cls v)
  | knw {p : Addr} {l : List Int} (h : KTup T.K p l) : IsD (.ref p) (.knw l)
inductive IsDs : List V → List D → Prop
  | nil : IsDs [] []
  | cons {v : V} {d : D} {vs : List V} {ds : List D} (h : IsD v d) (t : IsDs vs ds) : IsDs (v :: vs) (d :: ds)
end
end
section
variable {T : Ct} {N N' : Addr → Prop} {Pt Pt' : Addr → Prop} {H H' : Hp}
mutual
theorem IsD.conv (k : ∀ a o, ¬ N a → H a = some o → ¬ N' a ∧ H' a = some o) (kp : ∀ a, Pt a → Pt' a) : ∀ {v : V} {d : D}, IsD T N Pt H v d → IsD T N' Pt' H' v d
  | _, _, .int => .int
  | _, _, .bl => .bl
  | _, _, .str => .str
  | _, _, .non => .non
  | _, _, .lst n e h => .lst (k _ _ n e).1 (k _ _ n e).2 (IsDs.conv k kp h)
  | _, _, .tup n e h => .tup (k _ _ n e).1 (k _ _ n e).2 (IsDs.conv k kp h)
  | _, _, .dct n e hk h => .dct (k _ _ n e).1 (k _ _ n e).2 hk (IsDs.conv k kp h)
  | _, _, .ins hc n e hl h => .ins hc (k _ _ n e).1 (k _ _ n e).2 hl (IsDs.conv k kp h)
  | _, _, .pot h => .pot (kp _ h)
  | _, _, .cls => .cls
  | _, _, .knw h => .knw h
theorem IsDs.conv (k : ∀ a o, ¬ N a → H a = some o → ¬ N' a ∧ H' a = some o) (kp : ∀ a, Pt a → Pt' a) : ∀ {vs : List V} {ds : List D}, IsDs T N Pt H vs ds → IsDs T N' Pt' H' vs ds
  | _, _, .nil => .nil
  | _, _, .cons h t => .cons (IsD.conv k kp h) (IsDs.conv k kp t)
end
theorem IsDs.len : ∀ {vs : List V} {ds : List D}, IsDs T N Pt H vs ds → vs.length = ds.length
  | _, _, .nil => rfl
  | _, _, .cons _ t => congrArg Nat.succ t.len
theorem IsDs.get : ∀ {vs : List V} {ds : List D} {i : Nat} {d : D}, IsDs T N Pt H vs ds → ds[i]? = some d → ∃ v, vs[i]? = some v ∧ IsD T N Pt H v d
  | _, _, _, _, .nil, e => by simp at e
  | _, _, 0, _, .cons r _, e => by simp at e; subst e; exact ⟨_, rfl, r⟩
  | _, _, i + 1, d, .cons _ t, e => by
    obtain ⟨u, h1, h2⟩ := IsDs.get (i := i) (d := d) t (by simpa using e)
    exact ⟨u, by simpa using h1, h2⟩
theorem IsDs.getL : ∀ {vs : List V} {ds : List D} {i : Nat} {v : V}, IsDs T N Pt H vs ds → vs[i]? = some v → ∃ d, ds[i]? = some d ∧ IsD T N Pt H v d
  | _, _, _, _, .nil, e => by simp at e
  | _, _, 0, _, .cons r _, e => by simp at e; subst e; exact ⟨_, rfl, r⟩
  | _, _, i + 1, v, .cons _ t, e => by
    obtain ⟨u, h1, h2⟩ := IsDs.getL (i := i) (v := v) t (by simpa using e)
    exact ⟨u, by simpa using h1, h2⟩
theorem IsDs.app : ∀ {vs ws : List V} {ds es : List D}, IsDs T N Pt H vs ds → IsDs T N Pt H ws es → IsDs T N Pt H (vs ++ ws) (ds ++ es)
  | _, _, _, _, .nil, h => h
  | _, _, _, _, .cons r t, h => .cons r (t.app h)
theorem IsDs.take (n : Nat) : ∀ {vs : List V} {ds : List D}, IsDs T N Pt H vs ds → IsDs T N Pt H (vs.take n) (ds.take n)
  | _, _, .nil => by simp; exact .nil
  | _, _, .cons r t => by
    cases n with
    | zero => exact .nil
    | succ n => exact .cons r (t.take n)
theorem IsDs.drop (n : Nat) : ∀ {vs : List V} {ds : List D}, IsDs T N Pt H vs ds → IsDs T N Pt H (vs.drop n) (ds.drop n)
  | _, _, .nil => by simp; exact .nil
  | _, _, .cons r t => by
    cases n with
    | zero => exact .cons r t
    | succ n => exact t.drop n
theorem IsDs.set {v : V} {d : D} (h : IsD T N Pt H v d) : ∀ {vs : List V} {ds : List D} (i : Nat), IsDs T N Pt H vs ds → IsDs T N Pt H (vs.set i v) (ds.set i d)
  | _, _, _, .nil => .nil
  | _, _, 0, .cons _ t => .cons h t
  | _, _, i + 1, .cons r t => .cons r (IsDs.set h i t)
end
/-- a world that keeps the pots at P -/
structure Wo extends Wld where
  P : Addr → Prop
  pm : ∀ {a}, P a → M a
  rd : ∀ {H a}, I H → P a → ∃ x y : Int, 0 ≤ x ∧ 0 ≤ y ∧ y < 2 ^ 40 ∧ H a = some (PotL x y)
  wr : ∀ {H a} (x y : Int), I H → P a → 0 ≤ x → 0 ≤ y → y < 2 ^ 40 → I (upd H a (PotL x y))
theorem Wo.potW {W : Wo} {a : Addr} (h : W.P a) : PotW W.toWld a := ⟨W.pm h, fun i => W.rd i h, fun x y i => W.wr x y i h⟩
abbrev Is (T : Ct) (W : Wo) (H : Hp) (v : V) (d : D) : Prop := IsD T W.M W.P H v d
abbrev Iss (T : Ct) (W : Wo) (H : Hp) (v : List V) (d : List D) : Prop := IsDs T W.M W.P H v d
theorem Is.up {T : Ct} {W : Wo} {H H' : Hp} {v : V} {d : D} (u : Up W.toWld H H') (h : Is T W H v d) : Is T W H' v d := IsD.conv (fun a o n e => ⟨n, u a o n e⟩) (fun _ p => p) h
theorem Iss.up {T : Ct} {W : Wo} {H H' : Hp} {v : List V} {d : List D} (u : Up W.toWld H H') (h : Iss T W H v d) : Iss T W H' v d := IsDs.conv (fun a o n e => ⟨n, u a o n e⟩) (fun _ p => p) h
/-- what is asked so that every outcome has R -/
abbrev M (α : Type) := (α → Prop) → Prop
def rt {α : Type} (x : α) : M α := fun R => R x
def bd {α β : Type} (m : M α) (k : α → M β) : M β := fun R => m fun x => k x R
def fail {α : Type} : M α := fun _ => False
/-- asked: p -/
def asks {α : Type} (p : Prop) (m : M α) : M α := fun R => p ∧ m R
def ite2 (b : Bool) (A B : Prop) : Prop := match b with
  | true => A
  | false => B
def iteM {α : Type} (m : M Bool) (a b : M α) : M α := fun R => m fun k => ite2 k (a R) (b R)
def lnil : M (List D) := fun R => R []
def lcons (m : M D) (ml : M (List D)) : M (List D) := fun R => m fun x => ml fun xs => R (x :: xs)
section
variable (T : Ct) (X : Cx) (W : Wo)
def Ev (te : TE) (σ : L2.St) (H : Hp) (P : D → Prop) : Prop :=
  ∀ H1, Up W.toWld H H1 → W.I H1 → ∀ Q : VK, (∀ v H2 d, Up W.toWld H1 H2 → W.I H2 → Is T W H2 v d → P d → Q v H2) → te σ H1 Q
def EvL (ta : TA) (σ : L2.St) (H : Hp) (P : List D → Prop) : Prop :=
  ∀ H1, Up W.toWld H H1 → W.I H1 → ∀ Q : List V → Hp → Prop, (∀ vs H2 ds, Up W.toWld H1 H2 → W.I H2 → Iss T W H2 vs ds → P ds → Q vs H2) → ta σ H1 Q
def De (e : Expr) (σ : L2.St) (H : Hp) (P : D → Prop) : Prop := ∃ te, PE X e te ∧ Ev T W te σ H P
def Le (es : List Expr) (σ : L2.St) (H : Hp) (P : List D → Prop) : Prop := ∃ ta, PA X es ta ∧ EvL T W ta σ H P
/-- e by what it asks -/
def Dw (e : Expr) (σ : L2.St) (H : Hp) (m : M D) : Prop := ∀ R, m R → De T X W e σ H R
def Lw (es : List Expr) (σ : L2.St) (H : Hp) (m : M (List D)) : Prop := ∀ R, m R → Le T X W es σ H R
def Tw (e : Expr) (σ : L2.St) (H : Hp) (m : M Bool) : Prop := ∀ R, m R → Inn.Tx X W.toWld e σ H R
def Ww (e : Expr) (σ : L2.St) (H : Hp) (m : M Bool) : Prop := ∀ R, m R → Inn.Txw X W.toWld e σ H R
end
section
variable {X : Cx} {e : Expr} {es : List Expr}
def teAny (X : Cx) (e : Expr) : TE := fun σ H Q => ∃ t, PE X e t ∧ t σ H Q
theorem pe_any : PE X e (teAny X e) := ⟨fun pins s σ H Q I ⟨t, p, q⟩ => p.run pins s σ H Q I q⟩
def ttAny (X : Cx) (e : Expr) : TT := fun σ H Q => ∃ t, PT X e t ∧ t σ H Q
theorem pt_any : PT X e (ttAny X e) := ⟨fun pins s σ H Q I ⟨t, p, q⟩ => p.run pins s σ H Q I q⟩
def twAny (X : Cx) (e : Expr) : TT := fun σ H Q => ∃ t, PW X e t ∧ t σ H Q
theorem pw_any : PW X e (twAny X e) := ⟨fun whole pins s σ H Q I ⟨t, p, q⟩ => p.run whole pins s σ H Q I q⟩
def taAny (X : Cx) (es : List Expr) : TA := fun σ H Q => ∃ t, PA X es t ∧ t σ H Q
theorem pa_any : PA X es (taAny X es) := ⟨fun pos pins s σ H Q I ⟨t, p, q⟩ => p.run pos pins s σ H Q I q⟩
end
section
variable {T : Ct} {X : Cx} {W : Wo} {σ : L2.St} {H H1 H2 : Hp} {pos : Pos} {a b c e : Expr} {es rest : List Expr} {R : D → Prop} {m ma mb : M D}
/-- a reading that goes on -/
theorem Dw.go (h : Dw T X W e σ H m) (hm : m R) (u : Up W.toWld H H1) (hI : W.I H1) {Q : VK} (q : ∀ v H2 d, Up W.toWld H1 H2 → W.I H2 → Is T W H2 v d → R d → Q v H2) : teAny X e σ H1 Q := by
  obtain ⟨t, p, ev⟩ := h R hm
  exact ⟨t, p, ev H1 u hI Q q⟩
theorem Tw.go {m : M Bool} {R : Bool → Prop} (h : Tw X W e σ H m) (hm : m R) (u : Up W.toWld H H1) (hI : W.I H1) {Q : Bool → Hp → Prop} (q : ∀ b H2, Up W.toWld H1 H2 → W.I H2 → R b → Q b H2) : ttAny X e σ H1 Q := by
  obtain ⟨t, p, ev⟩ := h R hm
  exact ⟨t, p, ev H1 u hI Q q⟩
theorem Ww.go {m : M Bool} {R : Bool → Prop} (h : Ww X W e σ H m) (hm : m R) (u : Up W.toWld H H1) (hI : W.I H1) {Q : Bool → Hp → Prop} (q : ∀ b H2, Up W.toWld H1 H2 → W.I H2 → R b → Q b H2) : twAny X e σ H1 Q := by
  obtain ⟨t, p, ev⟩ := h R hm
  exact ⟨t, p, ev H1 u hI Q q⟩
theorem Lw.go {m : M (List D)} {R : List D → Prop} (h : Lw T X W es σ H m) (hm : m R) (u : Up W.toWld H H1) (hI : W.I H1) {Q : List V → Hp → Prop} (q : ∀ vs H2 ds, Up W.toWld H1 H2 → W.I H2 → Iss T W H2 vs ds → R ds → Q vs H2) : taAny X es σ H1 Q := by
  obtain ⟨t, p, ev⟩ := h R hm
  exact ⟨t, p, ev H1 u hI Q q⟩
theorem Dw.of {te : TE} (pe : PE X e te) (h : ∀ R, m R → Ev T W te σ H R) : Dw T X W e σ H m := fun R hm => ⟨te, pe, h R hm⟩
end
/-! ### the slots -/
def Sees (T : Ct) (W : Wo) (σ : L2.St) (H : Hp) (ρ : List (Option D)) : Prop := σ.length = ρ.length ∧ ∀ (i : Nat) (d : D), ρ[i]? = some (some d) → ∃ v, σ[i]? = some (some v) ∧ Is T W H v d
/-- where the run stands: H0 is where the def began, W0 its world -/
structure Now (T : Ct) (W0 W : Wo) (H0 : Hp) (σ : L2.St) (H : Hp) (ρ : List (Option D)) : Prop where
  up : Up W0.toWld H0 H
  rel : ∀ a o, ¬ W0.M a → H0 a = some o → ¬ W.M a
  inv : W.I H
  see : Sees T W σ H ρ
section
variable {T : Ct} {W0 W : Wo} {H0 H H1 : Hp} {σ : L2.St} {ρ : List (Option D)}
theorem Sees.up (h : Sees T W σ H ρ) (u : Up W.toWld H H1) : Sees T W σ H1 ρ := ⟨h.1, fun i d e => let ⟨v, e1, h1⟩ := h.2 i d e; ⟨v, e1, h1.up u⟩⟩
theorem Sees.set {v : V} {d : D} (h : Sees T W σ H ρ) (i : Nat) (hv : Is T W H v d) : Sees T W (σ.set i (some v)) H (ρ.set i (some d)) := by
  refine ⟨by rw [List.length_set, List.length_set]; exact h.1, fun j x e => ?_⟩
  rw [List.getElem?_set] at e ⊢
  by_cases ij : i = j
  · subst ij
    rw [if_pos rfl] at e ⊢
    rw [h.1]
    by_cases hi : i < ρ.length
    · rw [if_pos hi] at e ⊢
      cases e
      exact ⟨v, rfl, hv⟩
    · rw [if_neg hi] at e
      cases e
  · rw [if_neg ij] at e ⊢
    exact h.2 j x e
theorem Sees.unset (h : Sees T W σ H ρ) (i : Nat) : Sees T W (σ.set i none) H (ρ.set i none) := by
  refine ⟨by rw [List.length_set, List.length_set]; exact h.1, fun j x e => ?_⟩
  rw [List.getElem?_set] at e ⊢
  by_cases ij : i = j
  · subst ij
    rw [if_pos rfl] at e
    by_cases hi : i < ρ.length
    · rw [if_pos hi] at e
      cases e
    · rw [if_neg hi] at e
      cases e
  · rw [if_neg ij] at e ⊢
    exact h.2 j x e
/-- less is known -/
theorem Sees.less {ρ' : List (Option D)} (h : Sees T W σ H ρ) (hl : ρ'.length = ρ.length) (k : ∀ (i : Nat) (d : D), ρ'[i]? = some (some d) → ρ[i]? = some (some d)) : Sees T W σ H ρ' := ⟨h.1.trans hl.symm, fun i d e => h.2 i d (k i d e)⟩
theorem Now.go (n : Now T W0 W H0 σ H ρ) (u : Up W.toWld H H1) (i : W.I H1) : Now T W0 W H0 σ H1 ρ := ⟨fun a o x y => u a o (n.rel a o x y) (n.up a o x y), n.rel, i, n.see.up u⟩
theorem Now.set {v : V} {d : D} (n : Now T W0 W H0 σ H ρ) (i : Nat) (h : Is T W H v d) : Now T W0 W H0 (σ.set i (some v)) H (ρ.set i (some d)) := ⟨n.up, n.rel, n.inv, n.see.set i h⟩
theorem Now.less {ρ' : List (Option D)} (n : Now T W0 W H0 σ H ρ) (hl : ρ'.length = ρ.length) (k : ∀ (i : Nat) (d : D), ρ'[i]? = some (some d) → ρ[i]? = some (some d)) : Now T W0 W H0 σ H ρ' := ⟨n.up, n.rel, n.inv, n.see.less hl k⟩
end
end Uv
set_option Elab.async false
set_option linter.all false
set_option maxRecDepth 100000
set_option maxHeartbeats 4000000
namespace Uv
open PySem L2 Inn PySem.Spec PyProof.Rows
/-! ### what is asked, construct by construct -/
def op2 (g : D → D → M D) (ma mb : M D) : M D := fun R => ma fun x => mb fun y => g x y R
def op1 (g : D → M D) (ma : M D) : M D := fun R => ma fun x => g x R
def opN (g : List D → M D) (ml : M (List D)) : M D := fun R => ml fun xs => g xs R
def tst (m : M D) : M Bool := fun R => m fun d => match d with
  | .bl b => R b
  | _ => False
def never2 : D → D → M D := fun _ _ => fail
def addG (own : D → D → M D) : D → D → M D
  | .int i, .int j => rt (.int (i + j))
  | .lst a, .lst b => asks (a.length + b.length ≤ sizeLine) (rt (.lst (a ++ b)))
  | .str a, .str b => asks (a.length + b.length ≤ sizeLine) (rt (.str (a ++ b)))
  | x, y => own x y
def subG (own : D → D → M D) : D → D → M D
  | .int i, .int j => rt (.int (i - j))
  | x, y => own x y
def mulG (own : D → D → M D) : D → D → M D
  | .int i, .int j => asks (CMulX i j) (rt (.int (i * j)))
  | .lst a, .int k => asks (-(2 ^ 63) ≤ k ∧ k < 2 ^ 63 ∧ a.length * k.toNat ≤ sizeLine) (rt (.lst (List.replicate k.toNat a).flatten))
  | x, y => own x y
def modG : D → D → M D
  | .int i, .int j => asks (j ≠ 0) (rt (.int (i.fmod j)))
  | _, _ => fail
def powG : D → D → M D
  | .int i, .int j => asks (0 ≤ j ∧ j ≤ 1000000 ∧ i.natAbs < 2 ^ 64) (rt (.int (i ^ j.toNat)))
  | _, _ => fail
/-- dividing that goes the short way -/
def NP (i j : Int) : Prop := PySem.Builtin.divisionGoesByPylong i j = false
theorem np {i j : Int} (h : j.natAbs.log2 < 9000) : NP i j := PyProof.noPylong_of_log2 h
theorem np_near {i j : Int} (h : i.natAbs.log2 < j.natAbs.log2 + 4500) : NP i j := by
  show (decide ((if j == 0 then 0 else j.natAbs.log2 / 30 + 1) > 300) && decide ((if i == 0 then 0 else i.natAbs.log2 / 30 + 1) > (if j == 0 then 0 else j.natAbs.log2 / 30 + 1) + 150)) = false
  by_cases hj : (j == 0) = true
  · rw [if_pos hj]; rfl
  · rw [if_neg hj]
    have : ¬ ((if i == 0 then 0 else i.natAbs.log2 / 30 + 1) > j.natAbs.log2 / 30 + 1 + 150) := by
      split <;> omega
    rw [decide_eq_false this, Bool.and_false]
def fdivG : D → D → M D
  | .int i, .int j => asks (j ≠ 0 ∧ NP i j) (rt (.int (i.fdiv j)))
  | _, _ => fail
def ltG : D → D → M D
  | .int i, .int j => rt (.bl (decide (i < j)))
  | _, _ => fail
def leG : D → D → M D
  | .int i, .int j => rt (.bl (decide (i ≤ j)))
  | _, _ => fail
def gtG : D → D → M D
  | .int i, .int j => rt (.bl (decide (j < i)))
  | _, _ => fail
def geG : D → D → M D
  | .int i, .int j => rt (.bl (decide (j ≤ i)))
  | _, _ => fail
def isNoneG : D → D → M D
  | .non, .non => rt (.bl true)
  | _, .non => rt (.bl false)
  | _, _ => fail
def notNoneG : D → D → M D
  | .non, .non => rt (.bl false)
  | _, .non => rt (.bl true)
  | _, _ => fail
def negG (own : D → M D) : D → M D
  | .int i => rt (.int (-i))
  | x => own x
/-- a value's truth -/
def tru : D → M Bool
  | .non => rt false
  | .bl b => rt b
  | .int i => rt (i != 0)
  | .str x => asks (x.length ≤ sizeLine) (rt ((x.length : Int) != 0))
  | .lst l => rt (!l.isEmpty)
  | .tup l => rt (!l.isEmpty)
  | .dct _ l => rt (!l.isEmpty)
  | _ => fail
def truM (m : M D) : M Bool := fun R => m fun d => tru d R
def notM (m : M Bool) : M Bool := fun R => m fun b => R (!b)
def blM (m : M Bool) : M D := fun R => m fun b => R (.bl b)
def andM (ma mb : M Bool) : M Bool := fun R => ma fun k => ite2 k (mb R) (R false)
def orM (ma mb : M Bool) : M Bool := fun R => ma fun k => ite2 k (R true) (mb R)
def andV (ma mb : M D) : M D := fun R => ma fun x => tru x fun k => ite2 k (mb R) (R x)
def orV (ma mb : M D) : M D := fun R => ma fun x => tru x fun k => ite2 k (R x) (mb R)
def ixG : D → D → M D
  | .lst l, .int i => fun R => ∃ x, atI l i = some x ∧ R x
  | .tup l, .int i => fun R => ∃ x, atI l i = some x ∧ R x
  | .str z, .int i => fun R => z.length ≤ sizeLine ∧ ∃ c, atI z.cps.toList i = some c ∧ R (.str ⟨#[c]⟩)
  | _, _ => fail
/-- the items of xs[lo:hi] -/
def cut {α : Type} (xs : List α) (lo hi : Option Int) : List α := (xs.drop (HT.sIx xs.length 0 lo)).take (HT.sIx xs.length xs.length hi - HT.sIx xs.length 0 lo)
def partM (m : M D) : M (Option Int) := fun R => m fun d => match d with
  | .int i => R (some i)
  | _ => False
def noPart : M (Option Int) := fun R => R none
def sliceG : D → Option Int → Option Int → M D
  | .lst l, lo, hi => rt (.lst (cut l lo hi))
  | .tup l, lo, hi => asks (¬ (HT.sIx l.length 0 lo = 0 ∧ HT.sIx l.length l.length hi = l.length)) (rt (.tup (cut l lo hi)))
  | _, _, _ => fail
def slM (m : M D) (lo hi : M (Option Int)) : M D := fun R => m fun x => lo fun l => hi fun h => sliceG x l h R
def revG : D → M D
  | .lst l => rt (.lst l.reverse)
  | _ => fail
/-! ### operators -/
section
variable (T : Ct) (W : Wo)
def rD2 (g : D → D → M D) : R2 := fun u v H Q => ∃ x y R, Is T W H u x ∧ Is T W H v y ∧ W.I H ∧ g x y R ∧ ∀ z w H', R z → Up W.toWld H H' → W.I H' → Is T W H' w z → Q w H'
def rD1 (g : D → M D) : V → Hp → VK → Prop := fun u H Q => ∃ x R, Is T W H u x ∧ W.I H ∧ g x R ∧ ∀ z w H', R z → Up W.toWld H H' → W.I H' → Is T W H' w z → Q w H'
def rDN (g : List D → M D) : List V → Hp → VK → Prop := fun us H Q => ∃ xs R, Iss T W H us xs ∧ W.I H ∧ g xs R ∧ ∀ z w H', R z → Up W.toWld H H' → W.I H' → Is T W H' w z → Q w H'
end
abbrev Op2 (T : Ct) (X : Cx) (W : Wo) (f : Value → Value → Sem Value) (g : D → D → M D) : Prop := OpR X f (rD2 T W g)
abbrev Op1 (T : Ct) (X : Cx) (W : Wo) (f : Value → Sem Value) (g : D → M D) : Prop := UnR X f (rD1 T W g)
abbrev OpN (T : Ct) (X : Cx) (W : Wo) (f : Value) (g : List D → M D) : Prop := CallR X f (rDN T W g)
section
variable {T : Ct} {X : Cx} {W : Wo} {own : D → D → M D} {own1 : D → M D} {f : Value → Value → Sem Value} {f1 : Value → Sem Value}
theorem op_never : Op2 T X W f never2 := fun _ _ _ _ _ _ _ _ _ _ _ _ h => by obtain ⟨_, _, _, _, _, _, z, _⟩ := h; exact z.elim
theorem op1_never : Op1 T X W f1 (fun _ => fail) := fun _ _ _ _ _ _ _ _ _ h => by obtain ⟨_, _, _, _, z, _⟩ := h; exact z.elim
theorem op_addG (h : Op2 T X W (binaryOp .Add) own) : Op2 T X W (binaryOp .Add) (addG own) := by
  intro pins s σ H u v a b Q I ra rb ⟨x, y, R, hx, hy, hI, hg, q⟩
  unfold addG at hg
  split at hg
  · cases hx; cases hy
    exact op_add pins s σ H _ _ _ _ Q I ra rb ⟨_, _, rfl, rfl, q _ _ _ hg (Up.refl _) hI .int⟩
  · cases hx with | lst n e h => cases hy with | lst n2 e2 h2 =>
    exact op_cat pins s σ H _ _ _ _ Q I ra rb ⟨_, _, _, _, rfl, rfl, e, e2, by rw [h.len, h2.len]; exact hg.1, fun p hp => q _ _ _ hg.2 (Up.new hp) (I_new hI hp) (.lst (not_M hI hp) upd_same ((Iss.up (Up.new hp) h).app (Iss.up (Up.new hp) h2)))⟩
  · cases hx; cases hy
    exact op_add_str pins s σ H _ _ _ _ Q I ra rb ⟨_, _, rfl, rfl, hg.1, q _ _ _ hg.2 (Up.refl _) hI .str⟩
  · exact h pins s σ H _ _ _ _ Q I ra rb ⟨_, _, R, hx, hy, hI, hg, q⟩
theorem op_subG (h : Op2 T X W (binaryOp .Sub) own) : Op2 T X W (binaryOp .Sub) (subG own) := by
  intro pins s σ H u v a b Q I ra rb ⟨x, y, R, hx, hy, hI, hg, q⟩
  unfold subG at hg
  split at hg
  · cases hx; cases hy
    exact op_sub pins s σ H _ _ _ _ Q I ra rb ⟨_, _, rfl, rfl, q _ _ _ hg (Up.refl _) hI .int⟩
  · exact h pins s σ H _ _ _ _ Q I ra rb ⟨_, _, R, hx, hy, hI, hg, q⟩
theorem IsDs.rep {N P : Addr → Prop} {H : Hp} {vs : List V} {ds : List D} (h : IsDs T N P H vs ds) : ∀ k : Nat, IsDs T N P H (List.replicate k vs).flatten (List.replicate k ds).flatten
  | 0 => .nil
  | k + 1 => by
    rw [List.replicate_succ, List.replicate_succ, List.flatten_cons, List.flatten_cons]
    exact h.app (IsDs.rep h k)
theorem op_mulG (h : Op2 T X W (binaryOp .Mult) own) : Op2 T X W (binaryOp .Mult) (mulG own) := by
  intro pins s σ H u v a b Q I ra rb ⟨x, y, R, hx, hy, hI, hg, q⟩
  unfold mulG at hg
  split at hg
  · cases hx; cases hy
    exact op_mulX pins s σ H _ _ _ _ Q I ra rb ⟨_, _, rfl, rfl, hg.1, q _ _ _ hg.2 (Up.refl _) hI .int⟩
  · cases hx with | lst n e h =>
    cases hy
    exact op_rep pins s σ H _ _ _ _ Q I ra rb ⟨_, _, _, rfl, rfl, e, hg.1.1, hg.1.2.1, by rw [h.len]; exact hg.1.2.2, fun p hp => q _ _ _ hg.2 (Up.new hp) (I_new hI hp) (.lst (not_M hI hp) upd_same ((Iss.up (Up.new hp) h).rep _))⟩
  · exact h pins s σ H _ _ _ _ Q I ra rb ⟨_, _, R, hx, hy, hI, hg, q⟩
theorem op_modG : Op2 T X W (binaryOp .Mod) modG := by
  intro pins s σ H u v a b Q I ra rb ⟨x, y, R, hx, hy, hI, hg, q⟩
  unfold modG at hg
  split at hg
  · cases hx; cases hy
    exact op_modN pins s σ H _ _ _ _ Q I ra rb ⟨_, _, rfl, rfl, hg.1, q _ _ _ hg.2 (Up.refl _) hI .int⟩
  · exact hg.elim
theorem op_fdivN {X : Cx} : OpR X (binaryOp .FloorDiv) (rI (fun i j => j ≠ 0 ∧ NP i j) fun i j => .int (i.fdiv j)) := opI fun i j _ _ _ _ _ hc q => floordiv_int hc.1 q (.inl hc.2)
theorem op_fdivG : Op2 T X W (binaryOp .FloorDiv) fdivG := by
  intro pins s σ H u v a b Q I ra rb ⟨x, y, R, hx, hy, hI, hg, q⟩
  unfold fdivG at hg
  split at hg
  · cases hx; cases hy
    exact op_fdivN pins s σ H _ _ _ _ Q I ra rb ⟨_, _, rfl, rfl, hg.1, q _ _ _ hg.2 (Up.refl _) hI .int⟩
  · exact hg.elim
theorem op_powG : Op2 T X W (binaryOp .Pow) powG := by
  intro pins s σ H u v a b Q I ra rb ⟨x, y, R, hx, hy, hI, hg, q⟩
  unfold powG at hg
  split at hg
  · cases hx; cases hy
    exact op_pow pins s σ H _ _ _ _ Q I ra rb ⟨_, _, rfl, rfl, hg.1, q _ _ _ hg.2 (Up.refl _) hI .int⟩
  · exact hg.elim
theorem op_ltG : Op2 T X W (compareOp .Lt) ltG := by
  intro pins s σ H u v a b Q I ra rb ⟨x, y, R, hx, hy, hI, hg, q⟩
  unfold ltG at hg
  split at hg
  · cases hx; cases hy
    exact op_lt pins s σ H _ _ _ _ Q I ra rb ⟨_, _, rfl, rfl, q _ _ _ hg (Up.refl _) hI .bl⟩
  · exact hg.elim
theorem op_leG : Op2 T X W (compareOp .LtE) leG := by
  intro pins s σ H u v a b Q I ra rb ⟨x, y, R, hx, hy, hI, hg, q⟩
  unfold leG at hg
  split at hg
  · cases hx; cases hy
    exact op_le pins s σ H _ _ _ _ Q I ra rb ⟨_, _, rfl, rfl, q _ _ _ hg (Up.refl _) hI .bl⟩
  · exact hg.elim
theorem op_gtG : Op2 T X W (compareOp .Gt) gtG := by
  intro pins s σ H u v a b Q I ra rb ⟨x, y, R, hx, hy, hI, hg, q⟩
  unfold gtG at hg
  split at hg
  · cases hx; cases hy
    exact op_gt pins s σ H _ _ _ _ Q I ra rb ⟨_, _, rfl, rfl, q _ _ _ hg (Up.refl _) hI .bl⟩
  · exact hg.elim
theorem op_geG : Op2 T X W (compareOp .GtE) geG := by
  intro pins s σ H u v a b Q I ra rb ⟨x, y, R, hx, hy, hI, hg, q⟩
  unfold geG at hg
  split at hg
  · cases hx; cases hy
    exact op_ge pins s σ H _ _ _ _ Q I ra rb ⟨_, _, rfl, rfl, q _ _ _ hg (Up.refl _) hI .bl⟩
  · exact hg.elim
theorem isNon {N P : Addr → Prop} {H : Hp} {v : V} {x : D} (h : IsD T N P H v x) (hn : x ≠ .non) (hc : ∀ v, x ≠ .cls v) : v ≠ .non := by
  intro z
  subst z
  cases h with
  | non => exact hn rfl
  | cls => exact hc _ rfl
theorem op_isNoneG : Op2 T X W (compareOp .Is) (fun x y => asks (∀ v, x ≠ .cls v) (isNoneG x y)) := by
  intro pins s σ H u v a b Q I ra rb ⟨x, y, R, hx, hy, hI, ⟨hc, hg⟩, q⟩
  unfold isNoneG at hg
  split at hg
  · cases hx; cases hy
    exact op_isN pins s σ H _ _ _ _ Q I ra rb ⟨rfl, q _ _ _ hg (Up.refl _) hI .bl⟩
  · rename_i hn
    cases hy
    have e : decide (u = .non) = false := decide_eq_false (isNon hx hn hc)
    exact op_isN pins s σ H _ _ _ _ Q I ra rb ⟨rfl, by rw [e]; exact q _ _ _ hg (Up.refl _) hI .bl⟩
  · exact hg.elim
theorem op_notNoneG : Op2 T X W (compareOp .IsNot) (fun x y => asks (∀ v, x ≠ .cls v) (notNoneG x y)) := by
  intro pins s σ H u v a b Q I ra rb ⟨x, y, R, hx, hy, hI, ⟨hc, hg⟩, q⟩
  unfold notNoneG at hg
  split at hg
  · cases hx; cases hy
    exact op_notN pins s σ H _ _ _ _ Q I ra rb ⟨rfl, q _ _ _ hg (Up.refl _) hI .bl⟩
  · rename_i hn
    cases hy
    have e : decide (u = .non) = false := decide_eq_false (isNon hx hn hc)
    exact op_notN pins s σ H _ _ _ _ Q I ra rb ⟨rfl, by rw [e]; exact q _ _ _ hg (Up.refl _) hI .bl⟩
  · exact hg.elim
theorem op_negG (h : Op1 T X W (unaryOp .USub) own1) : Op1 T X W (unaryOp .USub) (negG own1) := by
  intro pins s σ H u a Q I ra ⟨x, R, hx, hI, hg, q⟩
  unfold negG at hg
  split at hg
  · cases hx
    exact un_neg pins s σ H _ _ Q I ra ⟨_, rfl, q _ _ _ hg (Up.refl _) hI .int⟩
  · exact h pins s σ H _ _ Q I ra ⟨_, R, hx, hI, hg, q⟩
end
section
variable {T : Ct} {X : Cx} {W W0 : Wo} {σ : L2.St} {H H0 : Hp} {pos : Pos} {a b c e : Expr} {es rest : List Expr} {ma mb m : M D} {mt mu : M Bool} {ρ : List (Option D)}
/-! ### names, constants -/
theorem dv (i : Nat) (n : Now T W0 W H0 σ H ρ) {nm : Str} {d : D} (hρ : ρ[i]? = some (some d) := by rfl) (hN : X.N[i]? = some nm := by rfl)
    (hvis : Vis X.env.scope nm := by first | exact Or.inl rfl | exact Or.inr (Or.inl rfl) | exact Or.inr (Or.inr rfl)) (hd : (nm == ("__debug__" : Str)) = false := by decide) (hcd : (nm == ("__classdict__" : Str)) = false := by decide) :
    Dw T X W (.Name nm pos) σ H (rt d) := by
  obtain ⟨v, e, h⟩ := n.see.2 i d hρ
  exact .of (pe_var hN hvis hd hcd) fun R hm H1 u hI Q q => ⟨v, e, q v H1 d (Up.refl _) hI (h.up u) hm⟩
theorem d_int {i : Int} {j} : Dw T X W (.Constant (.int i) j pos) σ H (rt (.int i)) := .of pe_int fun R hm H1 _ hI Q q => q _ H1 _ (Up.refl _) hI .int hm
theorem d_bl {i : Bool} {j} : Dw T X W (.Constant (.bool i) j pos) σ H (rt (.bl i)) := .of pe_bl fun R hm H1 _ hI Q q => q _ H1 _ (Up.refl _) hI .bl hm
theorem d_str {i : Str} {j} : Dw T X W (.Constant (.str i) j pos) σ H (rt (.str i)) := .of pe_str fun R hm H1 _ hI Q q => q _ H1 _ (Up.refl _) hI .str hm
theorem d_non {j} : Dw T X W (.Constant .none j pos) σ H (rt .non) := .of pe_non fun R hm H1 _ hI Q q => q _ H1 _ (Up.refl _) hI .non hm
/-- a module's constant -/
theorem d_gint {nm : Str} {i : Int} {t : Tok} (hm : X.mg nm = some (.int i t)) (hg : Gl X nm := by rfl) (hd : (nm == ("__debug__" : Str)) = false := by decide) : Dw T X W (.Name nm pos) σ H (rt (.int i)) :=
  .of (pe_glob (v := .int i) hg hm ⟨_, rfl⟩ hd) fun R hm H1 _ hI Q q => q _ H1 _ (Up.refl _) hI .int hm
/-! ### operators -/
theorem dw_bin {op : Operator} {g : D → D → M D} (ho : Op2 T X W (binaryOp op) g) (ha : Dw T X W a σ H ma) (hb : Dw T X W b σ H mb) : Dw T X W (.BinOp a op b pos) σ H (op2 g ma mb) := by
  refine .of (pe_op ho pe_any pe_any) fun R hm H1 u hI Q q => ha.go hm u hI fun v H2 x u2 i2 hx px => hb.go px (u.trans u2) i2 fun w H3 y u3 i3 hy py => ?_
  exact ⟨x, y, R, hx.up u3, hy, i3, py, fun z w' H4 hz u4 i4 h4 => q w' H4 z ((u2.trans u3).trans u4) i4 h4 hz⟩
theorem dw_un {op : UnaryOp} {g : D → M D} (ho : Op1 T X W (unaryOp op) g) (ha : Dw T X W a σ H ma) : Dw T X W (.UnaryOp op a pos) σ H (op1 g ma) := by
  refine .of (pe_un ho pe_any) fun R hm H1 u hI Q q => ha.go hm u hI fun v H2 x u2 i2 hx px => ?_
  exact ⟨x, R, hx, i2, px, fun z w' H4 hz u4 i4 h4 => q w' H4 z (u2.trans u4) i4 h4 hz⟩
theorem dw_cmp {op : CmpOp} {g : D → D → M D} (ho : Op2 T X W (compareOp op) g) (ha : Dw T X W a σ H ma) (hb : Dw T X W b σ H mb) (hn : behindInMarks op b = false := by first | exact nomark _ | rfl) : Dw T X W (.Compare a [op] [b] pos) σ H (op2 g ma mb) := by
  refine .of (pe_cmpR ho pe_any pe_any hn) fun R hm H1 u hI Q q => ha.go hm u hI fun v H2 x u2 i2 hx px => hb.go px (u.trans u2) i2 fun w H3 y u3 i3 hy py => ?_
  exact ⟨x, y, R, hx.up u3, hy, i3, py, fun z w' H4 hz u4 i4 h4 => q w' H4 z ((u2.trans u3).trans u4) i4 h4 hz⟩
/-! ### tests -/
theorem Tw.of {te : TT} {m : M Bool} (pe : PT X e te) (h : ∀ R, m R → Inn.EvT W.toWld te σ H R) : Tw X W e σ H m := fun R hm => ⟨te, pe, h R hm⟩
theorem tw_cmp {op : CmpOp} {g : D → D → M D} (ho : Op2 T X W (compareOp op) g) (ha : Dw T X W a σ H ma) (hb : Dw T X W b σ H mb) (hn : behindInMarks op b = false := by first | exact nomark _ | rfl) : Tw X W (.Compare a [op] [b] pos) σ H (tst (op2 g ma mb)) := by
  refine .of (pt_cmpR ho pe_any pe_any hn) fun R hm H1 u hI Q q => ha.go hm u hI fun v H2 x u2 i2 hx px => hb.go px (u.trans u2) i2 fun w H3 y u3 i3 hy py => ?_
  refine ⟨x, y, _, hx.up u3, hy, i3, py, fun z w' H4 hz u4 i4 h4 => ?_⟩
  cases h4 with
  | bl => exact ⟨_, rfl, q _ H4 ((u2.trans u3).trans u4) i4 hz⟩
  | _ => exact hz.elim
theorem tru_V {v : V} {d : D} {R : Bool → Prop} {K : PySem.W.Frag} (h : Is T W H v d) (ht : tru d R) : ∃ k, TruV K v H k ∧ R k := by
  cases h with
  | int => exact ⟨_, rfl, ht⟩
  | bl => exact ⟨_, rfl, ht⟩
  | str => exact ⟨_, ⟨ht.1, rfl⟩, ht.2⟩
  | non => exact ⟨_, rfl, ht⟩
  | lst n e h =>
    refine ⟨_, .inl ⟨_, SqL.of e, rfl⟩, ?_⟩
    cases h <;> exact ht
  | tup n e h =>
    refine ⟨_, .inr (.inl ⟨_, SqT.of e, rfl⟩), ?_⟩
    cases h <;> exact ht
  | dct n e hk h =>
    refine ⟨_, .inr (.inr ⟨_, e, rfl⟩), ?_⟩
    rename_i kvs _ _
    cases kvs <;> cases h <;> exact ht
  | ins => exact ht.elim
  | pot => exact ht.elim
  | cls => exact ht.elim
  | knw => exact ht.elim
theorem tw_tru (ha : Dw T X W a σ H ma) (he : ∀ whole, isTrue a X.env whole = (do let v ← whole; standAt a.pos; holding [v] (truthy v)) := by intro _; rfl) : Tw X W a σ H (truM ma) := by
  refine .of (pt_truth pe_any he) fun R hm H1 u hI Q q => ha.go hm u hI fun v H2 x u2 i2 hx px => ?_
  obtain ⟨k, hk, hr⟩ := tru_V (K := X.K) hx px
  exact ⟨k, hk, q k H2 u2 i2 hr⟩
theorem tw_not (h : Tw X W a σ H mt) : Tw X W (.UnaryOp .Not a pos) σ H (notM mt) := .of (pt_not pt_any) fun R hm H1 u hI Q q => h.go hm u hI fun b H2 u2 i2 hb => q (!b) H2 u2 i2 hb
theorem Ww.of {te : TT} {m : M Bool} (pe : PW X e te) (h : ∀ R, m R → Inn.EvT W.toWld te σ H R) : Ww X W e σ H m := fun R hm => ⟨te, pe, h R hm⟩
theorem ww_and1 (h : Tw X W a σ H mt) : Ww X W (.BoolOp .And [a] pos) σ H mt := .of (pw_and1 pt_any) fun R hm H1 u hI Q q => h.go hm u hI q
theorem ww_or1 (h : Tw X W a σ H mt) : Ww X W (.BoolOp .Or [a] pos) σ H mt := .of (pw_or1 pt_any) fun R hm H1 u hI Q q => h.go hm u hI q
theorem ww_and (h : Tw X W a σ H mt) (h2 : Ww X W (.BoolOp .And (b :: rest) pos) σ H mu) : Ww X W (.BoolOp .And (a :: b :: rest) pos) σ H (andM mt mu) :=
  .of (pw_and pt_any pw_any) fun R hm H1 u hI Q q => h.go hm u hI fun k H2 u2 i2 hk => by
    cases k with
    | true => exact h2.go hk (u.trans u2) i2 fun k' H3 u3 i3 hk' => q k' H3 (u2.trans u3) i3 hk'
    | false => exact q false H2 u2 i2 hk
theorem ww_or (h : Tw X W a σ H mt) (h2 : Ww X W (.BoolOp .Or (b :: rest) pos) σ H mu) : Ww X W (.BoolOp .Or (a :: b :: rest) pos) σ H (orM mt mu) :=
  .of (pw_or pt_any pw_any) fun R hm H1 u hI Q q => h.go hm u hI fun k H2 u2 i2 hk => by
    cases k with
    | false => exact h2.go hk (u.trans u2) i2 fun k' H3 u3 i3 hk' => q k' H3 (u2.trans u3) i3 hk'
    | true => exact q true H2 u2 i2 hk
theorem tw_w (h : Ww X W e σ H mt) : Tw X W e σ H mt := fun R hm => let ⟨t, p, ev⟩ := h R hm; ⟨t, p.pt, ev⟩
/-! values of tests -/
theorem dw_one {op} (h : Dw T X W a σ H ma) : Dw T X W (.BoolOp op [a] pos) σ H ma := .of (pe_one pe_any) fun R hm H1 u hI Q q => h.go hm u hI q
theorem dw_and (h : Dw T X W a σ H ma) (h2 : Dw T X W (.BoolOp .And (b :: rest) pos) σ H mb) : Dw T X W (.BoolOp .And (a :: b :: rest) pos) σ H (andV ma mb) :=
  .of (pe_andT pe_any pe_any) fun R hm H1 u hI Q q => h.go hm u hI fun v H2 x u2 i2 hx px => by
    obtain ⟨k, hk, hr⟩ := tru_V (K := X.K) hx px
    refine ⟨k, hk, ?_⟩
    cases k with
    | true => exact h2.go hr (u.trans u2) i2 fun w H3 y u3 i3 hy py => q w H3 y (u2.trans u3) i3 hy py
    | false => exact q v H2 x u2 i2 hx hr
theorem dw_or (h : Dw T X W a σ H ma) (h2 : Dw T X W (.BoolOp .Or (b :: rest) pos) σ H mb) : Dw T X W (.BoolOp .Or (a :: b :: rest) pos) σ H (orV ma mb) :=
  .of (pe_orT pe_any pe_any) fun R hm H1 u hI Q q => h.go hm u hI fun v H2 x u2 i2 hx px => by
    obtain ⟨k, hk, hr⟩ := tru_V (K := X.K) hx px
    refine ⟨k, hk, ?_⟩
    cases k with
    | false => exact h2.go hr (u.trans u2) i2 fun w H3 y u3 i3 hy py => q w H3 y (u2.trans u3) i3 hy py
    | true => exact q v H2 x u2 i2 hx hr
theorem dw_not (h : Dw T X W a σ H ma) : Dw T X W (.UnaryOp .Not a pos) σ H (blM (notM (truM ma))) :=
  .of (pe_notT pe_any) fun R hm H1 u hI Q q => h.go hm u hI fun v H2 x u2 i2 hx px => by
    obtain ⟨k, hk, hr⟩ := tru_V (K := X.K) hx px
    exact ⟨k, hk, q _ H2 _ u2 i2 .bl hr⟩
theorem dw_if (hc : Tw X W c σ H mt) (ha : Dw T X W a σ H ma) (hb : Dw T X W b σ H mb) : Dw T X W (.IfExp c a b pos) σ H (iteM mt ma mb) :=
  .of (pe_ifExp pt_any pe_any pe_any) fun R hm H1 u hI Q q => hc.go hm u hI fun k H2 u2 i2 px => by
    cases k with
    | true => exact ha.go px (u.trans u2) i2 fun w H3 y u3 i3 hy py => q w H3 y (u2.trans u3) i3 hy py
    | false => exact hb.go px (u.trans u2) i2 fun w H3 y u3 i3 hy py => q w H3 y (u2.trans u3) i3 hy py
/-! ### displays, items -/
theorem Lw.of {te : TA} {m : M (List D)} (pe : PA X es te) (h : ∀ R, m R → EvL T W te σ H R) : Lw T X W es σ H m := fun R hm => ⟨te, pe, h R hm⟩
theorem l_nil : Lw T X W [] σ H lnil := .of pa_nil fun R hm H1 _ hI Q q => q [] H1 [] (Up.refl _) hI .nil hm
theorem l_cons {ml : M (List D)} (h : Dw T X W e σ H m) (hr : Lw T X W es σ H ml) (hs : starEach (e :: es) X.env = (false, eval e X.env) :: starEach es X.env := by rfl) : Lw T X W (e :: es) σ H (lcons m ml) :=
  .of (pa_cons pe_any pa_any hs) fun R hm H1 u hI Q q => h.go hm u hI fun v H2 x u2 i2 hx px => hr.go px (u.trans u2) i2 fun vs H3 xs u3 i3 hxs pxs => q (v :: vs) H3 (x :: xs) (u2.trans u3) i3 (.cons (hx.up u3) hxs) pxs
def lstM (ml : M (List D)) : M D := fun R => ml fun xs => xs.length ≤ sizeLine ∧ R (.lst xs)
def tupM (ml : M (List D)) : M D := fun R => ml fun xs => xs.length ≤ sizeLine ∧ R (.tup xs)
theorem dw_lst {ml : M (List D)} (h : Lw T X W es σ H ml) : Dw T X W (.List es pos) σ H (lstM ml) :=
  .of (pe_lst pa_any) fun R hm H1 u hI Q q => h.go hm u hI fun vs H2 xs u2 i2 hxs px => ⟨by rw [hxs.len]; exact px.1, fun p hp => q _ _ _ (u2.trans (Up.new hp)) (I_new i2 hp) (.lst (not_M i2 hp) upd_same (hxs.up (Up.new hp))) px.2⟩
theorem dw_tup {ml : M (List D)} {k} (h : Lw T X W es σ H ml) : Dw T X W (.Tuple es k pos) σ H (tupM ml) :=
  .of (pe_tup pa_any) fun R hm H1 u hI Q q => h.go hm u hI fun vs H2 xs u2 i2 hxs px => ⟨by rw [hxs.len]; exact px.1, fun p hp => q _ _ _ (u2.trans (Up.new hp)) (I_new i2 hp) (.tup (not_M i2 hp) upd_same (hxs.up (Up.new hp))) px.2⟩
theorem atI_map {α β : Type} {xs : List α} {ys : List β} {i : Int} {x : α} (hl : xs.length = ys.length) (h : atI xs i = some x) : ∃ j : Nat, ixN xs.length i = some j ∧ xs[j]? = some x ∧ atI ys i = ys[j]? := by
  unfold atI at h ⊢
  rw [← hl]
  cases e : ixN xs.length i with
  | none => rw [e] at h; cases h
  | some j => rw [e] at h; exact ⟨j, rfl, h, rfl⟩
theorem iss_atI {us : List V} {l : List D} {i : Int} {x : D} (h : Iss T W H us l) (e : atI l i = some x) : ∃ u, atI us i = some u ∧ Is T W H u x := by
  obtain ⟨j, _, e1, e2⟩ := atI_map (ys := us) h.len.symm e
  obtain ⟨u, h1, h2⟩ := h.get e1
  exact ⟨u, e2.trans h1, h2⟩
theorem dw_ix {i : Expr} (h : Dw T X W a σ H ma) (hi : Dw T X W i σ H mb) (hs : PlainIx i := by exact fun _ _ => rfl) : Dw T X W (.Subscript a i pos) σ H (op2 ixG ma mb) := by
  refine .of (pe_ix ix_seq pe_any pe_any hs) fun R hm H1 u hI Q q => h.go hm u hI fun v H2 x u2 i2 hx px => hi.go px (u.trans u2) i2 fun w H3 y u3 i3 hy py => ?_
  have hx := hx.up u3
  unfold ixG at py
  split at py
  · obtain ⟨z, ez, hz⟩ := py
    cases hx with | lst n e hl =>
    cases hy
    obtain ⟨w, ew, hw⟩ := iss_atI hl ez
    exact .inl ⟨_, _, _, w, rfl, rfl, SqL.of e, ew, q w H3 z (u2.trans u3) i3 hw hz⟩
  · obtain ⟨z, ez, hz⟩ := py
    cases hx with | tup n e hl =>
    cases hy
    obtain ⟨w, ew, hw⟩ := iss_atI hl ez
    exact .inr (.inl ⟨_, _, _, w, rfl, rfl, SqT.of e, ew, q w H3 z (u2.trans u3) i3 hw hz⟩)
  · obtain ⟨hz, c, ec, hr⟩ := py
    cases hx; cases hy
    exact .inr (.inr ⟨_, _, c, rfl, rfl, hz, ec, q _ H3 _ (u2.trans u3) i3 .str hr⟩)
  · exact py.elim
end
end Uv
set_option Elab.async false
set_option linter.all false
set_option maxRecDepth 100000
set_option maxHeartbeats 4000000
namespace Uv
open PySem L2 Inn PySem.Spec PyProof.Rows
/-! ### slices -/
theorem IsDs.cut {T : Ct} {N P : Addr → Prop} {H : Hp} {vs : List V} {ds : List D} (h : IsDs T N P H vs ds) (lo hi : Option Int) : IsDs T N P H (cutV vs lo hi) (cut ds lo hi) := by
  unfold cutV Uv.cut
  rw [h.len]
  exact (h.drop _).take _
section
variable {T : Ct} {X : Cx} {W W0 : Wo} {σ : L2.St} {H H0 : Hp} {pos p p2 : Pos} {a b c e : Expr} {es rest : List Expr} {ma mb m : M D} {ml : M (List D)} {mt mu : M Bool} {ρ : List (Option D)} {nm : Str} {lo hi : Option Expr} {mlo mhi : M (Option Int)}
def Pw (T : Ct) (X : Cx) (W : Wo) (lo : Option Expr) (σ : L2.St) (H : Hp) (m : M (Option Int)) : Prop :=
  ∀ R, m R → ∃ t, PO X lo t ∧ ∀ H1, Up W.toWld H H1 → W.I H1 → ∀ Q : Option Int → Hp → Prop, (∀ o H2, Up W.toWld H1 H2 → W.I H2 → R o → Q o H2) → t σ H1 Q
def toAny (X : Cx) (lo : Option Expr) : TO := fun σ H Q => ∃ t, PO X lo t ∧ t σ H Q
theorem po_any : PO X lo (toAny X lo) := ⟨fun pins s σ H Q I ⟨t, p, q⟩ => p.run pins s σ H Q I q⟩
theorem Pw.go {m : M (Option Int)} {R : Option Int → Prop} {H1 : Hp} (h : Pw T X W lo σ H m) (hm : m R) (u : Up W.toWld H H1) (hI : W.I H1) {Q : Option Int → Hp → Prop} (q : ∀ o H2, Up W.toWld H1 H2 → W.I H2 → R o → Q o H2) : toAny X lo σ H1 Q := by
  obtain ⟨t, p, ev⟩ := h R hm
  exact ⟨t, p, ev H1 u hI Q q⟩
theorem p_none : Pw T X W none σ H noPart := fun R hm => ⟨_, po_none, fun H1 _ hI Q q => q none H1 (Up.refl _) hI hm⟩
theorem p_some (h : Dw T X W e σ H m) : Pw T X W (some e) σ H (partM m) := fun R hm => ⟨_, po_some pe_any, fun H1 u hI Q q => h.go hm u hI fun v H2 x u2 i2 hx px => by
  cases hx with
  | int => exact ⟨_, rfl, q _ H2 u2 i2 px⟩
  | _ => exact px.elim⟩
theorem dw_slice (h : Dw T X W a σ H ma) (hl : Pw T X W lo σ H mlo) (hh : Pw T X W hi σ H mhi) : Dw T X W (.Subscript a (.Slice lo hi none p2) pos) σ H (slM ma mlo mhi) := by
  refine .of (pe_slice (SlR.or sl_list sl_tup) pe_any po_any po_any) fun R hm H1 u hI Q q => h.go hm u hI fun v H2 x u2 i2 hx px => hl.go px (u.trans u2) i2 fun l H3 u3 i3 pl => hh.go pl ((u.trans u2).trans u3) i3 fun g H4 u4 i4 pg => ?_
  have hx := hx.up (u3.trans u4)
  unfold sliceG at pg
  split at pg
  · cases hx with | lst n e hd =>
    exact .inl ⟨_, _, rfl, SqL.of e, fun p hp => q _ _ _ (((u2.trans u3).trans u4).trans (Up.new hp)) (I_new i4 hp) (.lst (not_M i4 hp) upd_same (Iss.up (Up.new hp) (hd.cut l g))) pg⟩
  · cases hx with | tup n e hd =>
    exact .inr ⟨_, _, rfl, SqT.of e, by rw [hd.len]; exact pg.1, fun p hp => q _ _ _ (((u2.trans u3).trans u4).trans (Up.new hp)) (I_new i4 hp) (.tup (not_M i4 hp) upd_same (Iss.up (Up.new hp) (hd.cut l g))) pg.2⟩
  · exact pg.elim
/-! ### calls of built-ins -/
theorem dw_B {id : String} {g : List D → M D} (ho : OpN T X W (.builtin id) g) (hm : X.mg nm = none) (hv : bootBuiltins nm = some (.builtin id)) (ha : Lw T X W (e :: es) σ H ml) (hg : Gl X nm := by rfl) (hn : nm ≠ "__name__" := by decide) (hdb : (nm == ("__debug__" : Str)) = false := by decide)
    (hs : starEach (e :: es) X.env = (false, eval e X.env) :: starEach es X.env := by rfl) (hpl : (backTo pos (starEach es X.env)).any (·.1) = false := by rfl) : Dw T X W (.Call (.Name nm p) (e :: es) [] pos) σ H (opN g ml) :=
  .of (pe_callB ho hg hm hv pa_any hn hdb hs hpl) fun R hm H1 u hI Q q => ha.go hm u hI fun vs H2 xs u2 i2 hx px => ⟨xs, R, hx, i2, px, fun z w H3 hz u3 i3 h3 => q w H3 z (u2.trans u3) i3 h3 hz⟩
theorem dw_Ty {id : String} {g : List D → M D} (ho : OpN T X W (.type id) g) (hm : X.mg nm = none) (hv : bootBuiltins nm = some (.type id)) (ha : Lw T X W (e :: es) σ H ml) (hg : Gl X nm := by rfl) (hn : nm ≠ "__name__" := by decide) (hdb : (nm == ("__debug__" : Str)) = false := by decide)
    (hs : starEach (e :: es) X.env = (false, eval e X.env) :: starEach es X.env := by rfl) (hpl : (backTo pos (starEach es X.env)).any (·.1) = false := by rfl) : Dw T X W (.Call (.Name nm p) (e :: es) [] pos) σ H (opN g ml) :=
  .of (pe_callTy ho hg hm hv pa_any hn hdb hs hpl) fun R hm H1 u hI Q q => ha.go hm u hI fun vs H2 xs u2 i2 hx px => ⟨xs, R, hx, i2, px, fun z w H3 hz u3 i3 h3 => q w H3 z (u2.trans u3) i3 h3 hz⟩
theorem dw_Fn {id : String} {g : List D → M D} (ho : OpN T X W (.builtin id) g) (hm : X.mg nm = some (.builtin id)) (ha : Lw T X W (e :: es) σ H ml) (hg : Gl X nm := by rfl) (hdb : (nm == ("__debug__" : Str)) = false := by decide)
    (hs : starEach (e :: es) X.env = (false, eval e X.env) :: starEach es X.env := by rfl) (hpl : (backTo pos (starEach es X.env)).any (·.1) = false := by rfl) : Dw T X W (.Call (.Name nm p) (e :: es) [] pos) σ H (opN g ml) :=
  .of (pe_callBfun ho hg hm pa_any hdb hs hpl) fun R hm H1 u hI Q q => ha.go hm u hI fun vs H2 xs u2 i2 hx px => ⟨xs, R, hx, i2, px, fun z w H3 hz u3 i3 h3 => q w H3 z (u2.trans u3) i3 h3 hz⟩
end
def lenF : List D → M D
  | [.lst l] => rt (.int (l.length : Nat))
  | [.tup l] => rt (.int (l.length : Nat))
  | [.str x] => asks (x.length ≤ sizeLine) (rt (.int (x.length : Nat)))
  | [.knw l] => rt (.int (l.length : Nat))
  | _ => fail
def absF : List D → M D
  | [.int i] => rt (.int (if i < 0 then -i else i))
  | _ => fail
def intsOf : List D → Option (List Int)
  | [] => some []
  | .int i :: r => (intsOf r).map (i :: ·)
  | _ :: _ => none
def blsOf : List D → Option (List Bool)
  | [] => some []
  | .bl i :: r => (blsOf r).map (i :: ·)
  | _ :: _ => none
def maxF : List D → M D
  | [.int i, .int j] => rt (.int (if j > i then j else i))
  | [.lst l] => fun R => ∃ ns, intsOf l = some ns ∧ 0 < ns.length ∧ ∀ m, m ∈ ns → (∀ y, y ∈ ns → y ≤ m) → R (.int m)
  | _ => fail
def minF : List D → M D
  | [.int i, .int j] => rt (.int (if j < i then j else i))
  | [.lst l] => fun R => ∃ ns, intsOf l = some ns ∧ 0 < ns.length ∧ ∀ m, m ∈ ns → (∀ y, y ∈ ns → m ≤ y) → R (.int m)
  | _ => fail
def intF : List D → M D
  | [.int i] => rt (.int i)
  | [.bl k] => rt (.int (if k = true then 1 else 0))
  | _ => fail
def sumF : List D → M D
  | [.lst l] => fun R => ∃ ns, intsOf l = some ns ∧ R (.int ns.sum)
  | _ => fail
def allF : List D → M D
  | [.lst l] => fun R => ∃ ns, blsOf l = some ns ∧ R (.bl (ns.all id))
  | _ => fail
def anyF : List D → M D
  | [.lst l] => fun R => ∃ ns, blsOf l = some ns ∧ R (.bl (ns.any id))
  | _ => fail
def gcdF : List D → M D
  | [.int i, .int j] => rt (.int (Int.gcd i j : Nat))
  | _ => fail
def lcmF : List D → M D
  | [.int i, .int j] => asks (Lc i ∧ Lc j) (rt (.int (Nat.lcm i.natAbs j.natAbs : Nat)))
  | _ => fail
def listF : List D → M D
  | [.lst l] => rt (.lst l)
  | [.tup l] => rt (.lst l)
  | _ => fail
def tupleF : List D → M D
  | [.lst l] => rt (.tup l)
  | [.tup l] => rt (.tup l)
  | _ => fail
section
variable {T : Ct} {X : Cx} {W : Wo}
theorem intsOf_V {N P : Addr → Prop} {H : Hp} : ∀ {vs : List V} {ds : List D} {ns : List Int}, IsDs T N P H vs ds → intsOf ds = some ns → vs = ns.map V.int
  | _, _, _, .nil, e => by
    cases e
    rfl
  | _, d :: r, ns, .cons h t, e => by
    cases d with
    | int i =>
      cases h
      unfold intsOf at e
      cases e2 : intsOf r with
      | none => rw [e2] at e; cases e
      | some ms =>
        rw [e2] at e
        cases e
        rw [intsOf_V t e2, List.map_cons]
    | _ => cases e
theorem blsOf_V {N P : Addr → Prop} {H : Hp} : ∀ {vs : List V} {ds : List D} {ns : List Bool}, IsDs T N P H vs ds → blsOf ds = some ns → vs = ns.map V.bl
  | _, _, _, .nil, e => by
    cases e
    rfl
  | _, d :: r, ns, .cons h t, e => by
    cases d with
    | bl i =>
      cases h
      unfold blsOf at e
      cases e2 : blsOf r with
      | none => rw [e2] at e; cases e
      | some ms =>
        rw [e2] at e
        cases e
        rw [blsOf_V t e2, List.map_cons]
    | _ => cases e
/-- one thing handed -/
theorem iss1 {H : Hp} {us : List V} {x : D} (h : Iss T W H us [x]) : ∃ u, us = [u] ∧ Is T W H u x := by
  cases h with
  | cons h t => cases t; exact ⟨_, rfl, h⟩
theorem iss2 {H : Hp} {us : List V} {x y : D} (h : Iss T W H us [x, y]) : ∃ u v, us = [u, v] ∧ Is T W H u x ∧ Is T W H v y := by
  cases h with
  | cons h t => cases t with | cons h2 t => cases t; exact ⟨_, _, rfl, h, h2⟩
theorem b_len (hK : T.K = X.K := by rfl) : OpN T X W (.builtin "len") lenF := by
  intro pins s σ H us vs Q I r ⟨xs, R, hx, hI, hg, q⟩
  unfold lenF at hg
  split at hg
  · obtain ⟨u, rfl, h⟩ := iss1 hx
    cases h with | lst n e hd =>
    exact call_len_seq pins s σ H _ _ Q I r ⟨_, _, rfl, .inl (SqL.of e), by rw [hd.len]; exact q _ _ _ hg (Up.refl _) hI .int⟩
  · obtain ⟨u, rfl, h⟩ := iss1 hx
    cases h with | tup n e hd =>
    exact call_len_seq pins s σ H _ _ Q I r ⟨_, _, rfl, .inr (SqT.of e), by rw [hd.len]; exact q _ _ _ hg (Up.refl _) hI .int⟩
  · obtain ⟨u, rfl, h⟩ := iss1 hx
    cases h
    exact call_len_str pins s σ H _ _ Q I r ⟨_, rfl, hg.1, q _ _ _ hg.2 (Up.refl _) hI .int⟩
  · obtain ⟨u, rfl, h⟩ := iss1 hx
    cases h with | @knw p l h =>
    exact call_len_seq pins s σ H _ _ Q I r ⟨_, _, rfl, .inr (h.sq hK), by rw [List.length_map]; exact q _ _ _ hg (Up.refl _) hI .int⟩
  · exact hg.elim
theorem b_abs : OpN T X W (.builtin "abs") absF := by
  intro pins s σ H us vs Q I r ⟨xs, R, hx, hI, hg, q⟩
  unfold absF at hg
  split at hg
  · obtain ⟨u, rfl, h⟩ := iss1 hx
    cases h
    exact call_abs pins s σ H _ _ Q I r ⟨_, rfl, q _ _ _ hg (Up.refl _) hI .int⟩
  · exact hg.elim
theorem b_max (hc : X.calm = true) : OpN T X W (.builtin "max") maxF := by
  intro pins s σ H us vs Q I r ⟨xs, R, hx, hI, hg, q⟩
  unfold maxF at hg
  split at hg
  · obtain ⟨u, v, rfl, h1, h2⟩ := iss2 hx
    cases h1; cases h2
    exact call_max2 hc pins s σ H _ _ Q I r ⟨_, _, rfl, q _ _ _ hg (Up.refl _) hI .int⟩
  · obtain ⟨u, rfl, h⟩ := iss1 hx
    obtain ⟨ns, e1, e2, hg⟩ := hg
    cases h with | lst n e hd =>
    rw [intsOf_V hd e1] at e
    exact cr_max hc pins s σ H _ _ Q I r ⟨_, ns, rfl, SqL.of e, e2, fun m h1 h2 => q _ _ _ (hg m h1 h2) (Up.refl _) hI .int⟩
  · exact hg.elim
theorem b_min (hc : X.calm = true) : OpN T X W (.builtin "min") minF := by
  intro pins s σ H us vs Q I r ⟨xs, R, hx, hI, hg, q⟩
  unfold minF at hg
  split at hg
  · obtain ⟨u, v, rfl, h1, h2⟩ := iss2 hx
    cases h1; cases h2
    exact call_min2 hc pins s σ H _ _ Q I r ⟨_, _, rfl, q _ _ _ hg (Up.refl _) hI .int⟩
  · obtain ⟨u, rfl, h⟩ := iss1 hx
    obtain ⟨ns, e1, e2, hg⟩ := hg
    cases h with | lst n e hd =>
    rw [intsOf_V hd e1] at e
    exact cr_min hc pins s σ H _ _ Q I r ⟨_, ns, rfl, SqL.of e, e2, fun m h1 h2 => q _ _ _ (hg m h1 h2) (Up.refl _) hI .int⟩
  · exact hg.elim
theorem b_int : OpN T X W (.type "int") intF := by
  intro pins s σ H us vs Q I r ⟨xs, R, hx, hI, hg, q⟩
  unfold intF at hg
  split at hg
  · obtain ⟨u, rfl, h⟩ := iss1 hx
    cases h
    exact call_int1 pins s σ H _ _ Q I r (.inl ⟨_, rfl, q _ _ _ hg (Up.refl _) hI .int⟩)
  · obtain ⟨u, rfl, h⟩ := iss1 hx
    cases h
    exact call_int1 pins s σ H _ _ Q I r (.inr ⟨_, rfl, q _ _ _ hg (Up.refl _) hI .int⟩)
  · exact hg.elim
theorem b_sum (hc : X.calm = true) : OpN T X W (.builtin "sum") sumF := by
  intro pins s σ H us vs Q I r ⟨xs, R, hx, hI, hg, q⟩
  unfold sumF at hg
  split at hg
  · obtain ⟨u, rfl, h⟩ := iss1 hx
    obtain ⟨ns, e1, hg⟩ := hg
    cases h with | lst n e hd =>
    rw [intsOf_V hd e1] at e
    exact cr_sum hc pins s σ H _ _ Q I r ⟨_, ns, rfl, SqL.of e, q _ _ _ hg (Up.refl _) hI .int⟩
  · exact hg.elim
theorem b_all (hc : X.calm = true) : OpN T X W (.builtin "all") allF := by
  intro pins s σ H us vs Q I r ⟨xs, R, hx, hI, hg, q⟩
  unfold allF at hg
  split at hg
  · obtain ⟨u, rfl, h⟩ := iss1 hx
    obtain ⟨ns, e1, hg⟩ := hg
    cases h with | lst n e hd =>
    rw [blsOf_V hd e1] at e
    exact cr_all hc pins s σ H _ _ Q I r ⟨_, ns, rfl, SqL.of e, q _ _ _ hg (Up.refl _) hI .bl⟩
  · exact hg.elim
theorem b_gcd : OpN T X W (.builtin "math.gcd") gcdF := by
  intro pins s σ H us vs Q I r ⟨xs, R, hx, hI, hg, q⟩
  unfold gcdF at hg
  split at hg
  · obtain ⟨u, v, rfl, h1, h2⟩ := iss2 hx
    cases h1; cases h2
    exact cr_gcd pins s σ H _ _ Q I r ⟨_, _, rfl, q _ _ _ hg (Up.refl _) hI .int⟩
  · exact hg.elim
theorem b_lcm : OpN T X W (.builtin "math.lcm") lcmF := by
  intro pins s σ H us vs Q I r ⟨xs, R, hx, hI, hg, q⟩
  unfold lcmF at hg
  split at hg
  · obtain ⟨u, v, rfl, h1, h2⟩ := iss2 hx
    cases h1; cases h2
    exact cr_lcm pins s σ H _ _ Q I r ⟨_, _, rfl, hg.1.1, hg.1.2, q _ _ _ hg.2 (Up.refl _) hI .int⟩
  · exact hg.elim
theorem b_list : OpN T X W (.type "list") listF := by
  intro pins s σ H us vs Q I r ⟨xs, R, hx, hI, hg, q⟩
  unfold listF at hg
  split at hg
  · obtain ⟨u, rfl, h⟩ := iss1 hx
    cases h with | lst n e hd =>
    exact call_list_of pins s σ H _ _ Q I r ⟨_, _, rfl, .inl (SqL.of e), fun p hp => q _ _ _ hg (Up.new hp) (I_new hI hp) (.lst (not_M hI hp) upd_same (Iss.up (Up.new hp) hd))⟩
  · obtain ⟨u, rfl, h⟩ := iss1 hx
    cases h with | tup n e hd =>
    exact call_list_of pins s σ H _ _ Q I r ⟨_, _, rfl, .inr (SqT.of e), fun p hp => q _ _ _ hg (Up.new hp) (I_new hI hp) (.lst (not_M hI hp) upd_same (Iss.up (Up.new hp) hd))⟩
  · exact hg.elim
theorem b_tuple : OpN T X W (.type "tuple") tupleF := by
  intro pins s σ H us vs Q I r ⟨xs, R, hx, hI, hg, q⟩
  unfold tupleF at hg
  split at hg
  · obtain ⟨u, rfl, h⟩ := iss1 hx
    cases h with | lst n e hd =>
    exact call_tuple_of pins s σ H _ _ Q I r ⟨_, _, rfl, .inl ⟨SqL.of e, fun p hp => q _ _ _ hg (Up.new hp) (I_new hI hp) (.tup (not_M hI hp) upd_same (Iss.up (Up.new hp) hd))⟩⟩
  · obtain ⟨u, rfl, h⟩ := iss1 hx
    cases h with | tup n e hd =>
    exact call_tuple_of pins s σ H _ _ Q I r ⟨_, _, rfl, .inr ⟨SqT.of e, q _ _ _ hg (Up.refl _) hI (.tup n e hd)⟩⟩
  · exact hg.elim
end
end Uv
set_option Elab.async false
set_option linter.all false
set_option maxRecDepth 100000
set_option maxHeartbeats 4000000
namespace Uv
open PySem L2 Inn PySem.Spec PyProof.Rows
/-! ### one object that changes -/
/-- the world in which the object at p, of no data, is o -/
def Wh (W : Wo) (p : Addr) (o : HO) : Wo where
  M a := W.M a ∨ a = p
  I H := W.I H ∧ H p = some o
  st h k := ⟨W.st h.1 fun a m => k a (.inl m), by rw [k p (.inr rfl)]; exact h.2⟩
  al h m := by
    rcases m with m | rfl
    · exact W.al h.1 m
    · exact ⟨_, h.2⟩
  P a := W.P a ∧ a ≠ p
  pm h := .inl (W.pm h.1)
  rd i h := W.rd i.1 h.1
  wr x y i h h1 h2 h3 := ⟨W.wr x y i.1 h.1 h1 h2 h3, by rw [upd_ne h.2.symm]; exact i.2⟩
/-- .. a list of us -/
abbrev Wg (W : Wo) (p : Addr) (us : List V) : Wo := Wh W p (.lst us)
section
variable {T : Ct} {W : Wo} {H H' : Hp} {p : Addr} {us vs : HO} {v : V} {d : D} {xs : List V} {ds : List D} {ρ : List (Option D)} {σ : L2.St}
theorem pot_ne (hI : W.I H) (hp : H p = none) : ∀ a, W.P a → W.P a ∧ a ≠ p := fun a h => ⟨h, fun z => by
  obtain ⟨x, y, _, _, _, e⟩ := W.rd hI h
  rw [z, hp] at e
  cases e⟩
theorem Is.gr (hI : W.I H) (hp : H p = none) (h : Is T W H v d) : Is T (Wh W p us) H v d := IsD.conv (fun a o n e => ⟨fun m => m.elim n fun z => ne_of_none e hp z, e⟩) (pot_ne hI hp) h
theorem Iss.gr (hI : W.I H) (hp : H p = none) (h : Iss T W H xs ds) : Iss T (Wh W p us) H xs ds := IsDs.conv (fun a o n e => ⟨fun m => m.elim n fun z => ne_of_none e hp z, e⟩) (pot_ne hI hp) h
theorem Is.wk (h : Is T (Wh W p us) H v d) : Is T W H v d := IsD.conv (fun a o n e => ⟨fun m => n (.inl m), e⟩) (fun _ h => h.1) h
theorem Iss.wk (h : Iss T (Wh W p us) H xs ds) : Iss T W H xs ds := IsDs.conv (fun a o n e => ⟨fun m => n (.inl m), e⟩) (fun _ h => h.1) h
/-- the list is changed -/
theorem Is.gw {o : HO} (h : Is T (Wh W p us) H v d) : Is T (Wh W p vs) (upd H p o) v d := IsD.conv (fun a o' n e => ⟨n, by rw [upd_ne (fun z => n (.inr z))]; exact e⟩) (fun _ h => h) h
theorem Iss.gw {o : HO} (h : Iss T (Wh W p us) H xs ds) : Iss T (Wh W p vs) (upd H p o) xs ds := IsDs.conv (fun a o' n e => ⟨n, by rw [upd_ne (fun z => n (.inr z))]; exact e⟩) (fun _ h => h) h
theorem Sees.gr (hI : W.I H) (hp : H p = none) (h : Sees T W σ H ρ) : Sees T (Wh W p us) σ H ρ := ⟨h.1, fun i d e => let ⟨v, e1, h1⟩ := h.2 i d e; ⟨v, e1, h1.gr hI hp⟩⟩
theorem Sees.wk (h : Sees T (Wh W p us) σ H ρ) : Sees T W σ H ρ := ⟨h.1, fun i d e => let ⟨v, e1, h1⟩ := h.2 i d e; ⟨v, e1, h1.wk⟩⟩
theorem Sees.gw {o : HO} (h : Sees T (Wh W p us) σ H ρ) : Sees T (Wh W p vs) σ (upd H p o) ρ := ⟨h.1, fun i d e => let ⟨v, e1, h1⟩ := h.2 i d e; ⟨v, e1, h1.gw⟩⟩
end
/-! ### what is walked over -/
/-- what comes: data that stand, or a new tuple of such -/
def Got (T : Ct) (W : Wo) (H2 : Hp) (x : V) (H' H'' : Hp) (d : D) : Prop :=
  (H'' = H' ∧ Is T W H2 x d) ∨ ∃ p us l, x = .ref p ∧ d = .tup l ∧ H' p = none ∧ H'' = upd H' p (.tup us) ∧ Iss T W H2 us l
structure Src (T : Ct) (W : Wo) (H2 : Hp) (G : Hp → Prop) (Y : Nat → Hp → V → Hp → Prop) (ds : List D) : Prop where
  st : ∀ H', Up W.toWld H2 H' → G H'
  yl : ∀ i H' x H'', i < ds.length → Up W.toWld H2 H' → Y i H' x H'' → ∃ d, ds[i]? = some d ∧ Got T W H2 x H' H'' d
def Iw (T : Ct) (X : Cx) (W : Wo) (tg iter : Expr) (σ : L2.St) (H : Hp) (m : M (List D)) : Prop :=
  ∀ R, m R → ∃ wi, PI X tg iter wi ∧ ∀ H1, Up W.toWld H H1 → W.I H1 → ∀ Rk : It → Hp → Prop, (∀ J H2 ds G Y, Up W.toWld H1 H2 → W.I H2 → Walk J ds.length G Y → Src T W H2 G Y ds → R ds → Rk J H2) → wi σ H1 Rk
/-- the items of a value -/
def itemsG : D → M (List D)
  | .lst l => rt l
  | .tup l => rt l
  | .knw l => rt (l.map .int)
  | _ => fail
def itemsM (m : M D) : M (List D) := fun R => m fun d => itemsG d R
section
variable {T : Ct} {X : Cx} {W W0 : Wo} {σ : L2.St} {H H0 : Hp} {pos p p2 : Pos} {a b c e tg iter : Expr} {es rest : List Expr} {ma mb m : M D} {ml : M (List D)} {mt mu : M Bool} {ρ : List (Option D)} {nm : Str}
def iSeq (K : PySem.W.Frag) (tl : TE) : TI := fun σ H R => tl σ H fun x H1 =>
  (∃ a xs, x = .ref a ∧ SqL K H1 a xs ∧ R (Itl K a) H1) ∨ (∃ a xs, x = .ref a ∧ SqT K H1 a xs ∧ R (Itt K a) H1)
theorem pi_seq {l : Expr} {tl : TE} (hl : PE X l tl) : PI X tg l (iSeq X.K tl) := by
  constructor
  intro pins s σ H R I h
  apply thn (hl.run pins s σ H _ I h)
  rintro v s1 ⟨x, H1, I1, r1, q1⟩
  have I2 : ∀ (ob : Obj), Inv X pins σ H1 { s1 with heap := s1.heap.push ob } := fun ob => I1.kept (t' := s1.toks) fun b o e => Heap.get?_push_of_some _ e
  have fr : ∀ b ∈ [s1.heap.objs.size], FpOk X pins H1 b := by
    intro b hb
    rw [List.mem_singleton.mp hb]
    exact I1.fpOk (Nat.le_refl _) (I1.hok.fresh (Nat.le_refl _))
  rcases q1 with ⟨a, xs, rfl, hq, q⟩ | ⟨a, xs, rfl, hq, q⟩ <;> cases r1
  case' inl =>
    obtain ⟨its, _, pl, _⟩ := I1.list hq
    apply wpAny_pyIter_list pl.isList
  case' inr =>
    obtain ⟨its, _, pl, _⟩ := I1.tuple hq
    apply wpAny_pyIter_tuple (show s1.heap.IsTuple a its.toArray from pl)
  case' inl => exact ⟨s1.heap.objs.size, [s1.heap.objs.size], _, _, H1, rfl, I2 _, turn_list a _, ⟨_, Heap.get?_push_size _ rfl, rfl, rfl⟩, fr, q⟩
  case' inr => exact ⟨s1.heap.objs.size, [s1.heap.objs.size], _, _, H1, rfl, I2 _, turn_tuple a _, ⟨_, Heap.get?_push_size _ rfl, rfl, rfl⟩, fr, q⟩
theorem iss_ints {N P : Addr → Prop} {H : Hp} : ∀ {l : List Int}, IsDs T N P H (l.map V.int) (l.map D.int)
  | [] => .nil
  | _ :: _ => .cons .int iss_ints
theorem iw_val (h : Dw T X W e σ H m) (hK : T.K = X.K := by rfl) : Iw T X W tg e σ H (itemsM m) := fun R hm => ⟨_, pi_seq pe_any, fun H1 u hI Rk q => h.go hm u hI fun v H2 d u2 i2 hd pd => by
  have src : ∀ {l : List D} {us : List V} {G : Hp → Prop}, Iss T W H2 us l → (∀ H', Up W.toWld H2 H' → G H') → Src T W H2 G (YAt us) l := fun {l us G} hs hG => ⟨hG, fun i H' x H'' hi u' y => by
    obtain ⟨z, hz, hx⟩ := hs.getL y.2
    exact ⟨z, hz, .inl ⟨y.1, hx⟩⟩⟩
  unfold itemsG at pd
  split at pd
  · cases hd with | lst n e hs =>
    refine .inl ⟨_, _, rfl, SqL.of e, q _ H2 _ (fun H' => SqL X.K H' _ _) _ u2 i2 (by rw [← hs.len]; exact walk_list) (src hs fun H' u' => SqL.of (u' _ _ n e)) pd⟩
  · cases hd with | tup n e hs =>
    refine .inr ⟨_, _, rfl, SqT.of e, q _ H2 _ (fun H' => SqT X.K H' _ _) _ u2 i2 (by rw [← hs.len]; exact walk_tup) (src hs fun H' u' => SqT.of (u' _ _ n e)) pd⟩
  · rename_i l
    cases hd with | knw h =>
    have hs : Iss T W H2 (l.map V.int) (l.map D.int) := iss_ints
    refine .inr ⟨_, _, rfl, h.sq hK, q _ H2 _ (fun H' => SqT X.K H' _ _) _ u2 i2 (by rw [← hs.len]; exact walk_tup) (src hs fun H' u' => h.sq hK) pd⟩
  · exact pd.elim⟩
def range1G : List D → M (List D)
  | [.int n] => asks (-(2 ^ 62) ≤ n ∧ n < 2 ^ 62) (rt ((List.range n.toNat).map fun i => .int (i : Nat)))
  | _ => fail
def range2G : List D → M (List D)
  | [.int a, .int b] => asks (-(2 ^ 62) ≤ a ∧ a < 2 ^ 62 ∧ -(2 ^ 62) ≤ b ∧ b < 2 ^ 62) (rt ((List.range (b - a).toNat).map fun i => .int (a + (i : Nat))))
  | _ => fail
def walkM (g : List D → M (List D)) (ml : M (List D)) : M (List D) := fun R => ml fun xs => g xs R
theorem src_range {H2 : Hp} {lo : Int} {n : Nat} {f : Nat → D} (hf : ∀ i, f i = .int (lo + (i : Nat))) : Src T W H2 (fun _ => True) (YFn fun i => .int (lo + i)) ((List.range n).map f) := ⟨fun _ _ => trivial, fun i H' x H'' hi u y => by
  rw [List.length_map, List.length_range] at hi
  refine ⟨f i, by rw [List.getElem?_map, List.getElem?_range hi]; rfl, .inl ⟨y.1, ?_⟩⟩
  rw [y.2, hf]
  exact .int⟩
theorem iw_range1 (ha : Lw T X W [a] σ H ml) (hm : X.mg "range" = none) (hg : Gl X "range" := by rfl) (hs : starEach [a] X.env = [(false, eval a X.env)] := by rfl) :
    Iw T X W tg (.Call (.Name "range" p) [a] [] pos) σ H (walkM range1G ml) := fun R hR => ⟨_, pi_range1 hg hm pa_any hs, fun H1 u hI Rk q => ha.go hR u hI fun vs H2 xs u2 i2 hx px => by
  unfold range1G at px
  split at px
  · rename_i n
    obtain ⟨v, rfl, h⟩ := iss1 hx
    cases h
    refine ⟨n, rfl, px.1.1, px.1.2, q _ H2 _ _ _ u2 i2 ?_ (src_range (lo := 0) (n := n.toNat) fun i => by rw [Int.zero_add]) px.2⟩
    rw [List.length_map, List.length_range]
    exact walk_range
  · exact px.elim⟩
theorem iw_range2 (ha : Lw T X W [a, b] σ H ml) (hm : X.mg "range" = none) (hg : Gl X "range" := by rfl) (hs : starEach [a, b] X.env = [(false, eval a X.env), (false, eval b X.env)] := by rfl) (hs2 : starEach [b] X.env = [(false, eval b X.env)] := by rfl) :
    Iw T X W tg (.Call (.Name "range" p) [a, b] [] pos) σ H (walkM range2G ml) := fun R hR => ⟨_, pi_range2 hg hm pa_any hs hs2, fun H1 u hI Rk q => ha.go hR u hI fun vs H2 xs u2 i2 hx px => by
  unfold range2G at px
  split at px
  · rename_i lo hi
    obtain ⟨v, w, rfl, h, h2⟩ := iss2 hx
    cases h
    cases h2
    refine ⟨lo, hi, rfl, ⟨px.1.1, px.1.2.1, px.1.2.2.1, px.1.2.2.2⟩, q _ H2 _ _ _ u2 i2 ?_ (src_range (lo := lo) (n := (hi - lo).toNat) fun i => rfl) px.2⟩
    rw [List.length_map, List.length_range]
    exact walk_range
  · exact px.elim⟩
/-- enumerate(a list) -/
def enumG : List D → M (List D)
  | [.lst l] => rt (l.zipIdx.map fun x => .tup [.int (x.2 : Nat), x.1])
  | _ => fail
def zipG : List D → M (List D)
  | [.lst a, .lst b] => rt ((a.zip b).map fun x => .tup [x.1, x.2])
  | [.tup a, .tup b] => rt ((a.zip b).map fun x => .tup [x.1, x.2])
  | _ => fail
theorem walk_zipT {K : PySem.W.Frag} {a b : Addr} {xs ys : List V} {n : Nat} (hn : n = min xs.length ys.length) : Walk (RZ.ItzT K a b) n (fun H => SqT K H a xs ∧ SqT K H b ys) (YPair (fun i => xs[i]?) (fun i => ys[i]?)) where
  goes i H hi q := by
    have h1 : i < xs.length := by omega
    have h2 : i < ys.length := by omega
    exact ⟨xs, ys, xs[i], ys[i], q.1, q.2, List.getElem?_eq_getElem h1, List.getElem?_eq_getElem h2⟩
  stops H q := ⟨xs, ys, q.1, q.2, by omega⟩
  yields i H v H' _ q y :=
    let ⟨t, x, z, h1, h2, h3, h4, h5⟩ := y
    ⟨t, x, z, h1, h2, h3, h4 xs q.1, h5 ys q.2⟩
theorem iw_enum {elts : List Expr} {kk : Nat} {tpos : Pos} (ha : Lw T X W [a] σ H ml) (hm : X.mg "enumerate" = none) (hg : Gl X "enumerate" := by rfl) (hs : starEach [a] X.env = [(false, eval a X.env)] := by rfl) :
    Iw T X W (.Tuple elts kk tpos) (.Call (.Name "enumerate" p) [a] [] pos) σ H (walkM enumG ml) := fun R hR => ⟨_, pi_enum hg hm pa_any hs, fun H1 u hI Rk q => ha.go hR u hI fun vs H2 xs u2 i2 hx px => by
  unfold enumG at px
  split at px
  · obtain ⟨v, rfl, h⟩ := iss1 hx
    cases h with | lst n e hs =>
    rename_i l _ us
    refine ⟨_, us, rfl, SqL.of e, q _ H2 _ (fun H' => SqL X.K H' _ us) (YPair (fun i => some (.int (i : Nat))) (fun i => us[i]?)) u2 i2 ?_ ⟨fun H' u' => SqL.of (u' _ _ n e), fun i H' x H'' hi u' y => ?_⟩ px⟩
    · rw [List.length_map, List.length_zipIdx, ← hs.len]
      exact walk_enum
    · rw [List.length_map, List.length_zipIdx] at hi
      obtain ⟨Tn, x1, x2, rfl, hn, rfl, e1, e2⟩ := y
      cases e1
      obtain ⟨z, hz, hx2⟩ := hs.getL e2
      refine ⟨.tup [.int (i : Nat), z], ?_, .inr ⟨Tn, _, _, rfl, rfl, hn, rfl, .cons .int (.cons hx2 .nil)⟩⟩
      rw [List.getElem?_map, List.getElem?_zipIdx, hz]
      simp
  · exact px.elim⟩
theorem iw_zip {elts : List Expr} {kk : Nat} {tpos : Pos} (ha : Lw T X W [a, b] σ H ml) (hm : X.mg "zip" = none) (hg : Gl X "zip" := by rfl) (hs : starEach [a, b] X.env = (false, eval a X.env) :: starEach [b] X.env := by rfl) (hpl : (backTo pos (starEach [b] X.env)).any (·.1) = false := by rfl) :
    Iw T X W (.Tuple elts kk tpos) (.Call (.Name "zip" p) [a, b] [] pos) σ H (walkM zipG ml) := fun R hR => ⟨_, RZ.pi_zipA hg hm pa_any hs hpl, fun H1 u hI Rk q => ha.go hR u hI fun vs H2 xs u2 i2 hx px => by
  unfold zipG at px
  split at px
  · obtain ⟨v, w, rfl, h, h'⟩ := iss2 hx
    cases h with | lst n e hs =>
    cases h' with | lst n' e' hs' =>
    rename_i l l' _ us _ us'
    refine ⟨_, _, us, us', rfl, .inl ⟨SqL.of e, SqL.of e', q _ H2 _ (fun H' => SqL X.K H' _ us ∧ SqL X.K H' _ us') (YPair (fun i => us[i]?) (fun i => us'[i]?)) u2 i2 ?_ ⟨fun H' u' => ⟨SqL.of (u' _ _ n e), SqL.of (u' _ _ n' e')⟩, fun i H' x H'' hi u' y => ?_⟩ px⟩⟩
    · exact walk_zip (by rw [List.length_map, List.length_zip, ← hs.len, ← hs'.len])
    · obtain ⟨Tn, x1, x2, rfl, hn, rfl, e1, e2⟩ := y
      obtain ⟨z1, hz1, hx1⟩ := hs.getL e1
      obtain ⟨z2, hz2, hx2⟩ := hs'.getL e2
      refine ⟨.tup [z1, z2], ?_, .inr ⟨Tn, _, _, rfl, rfl, hn, rfl, .cons hx1 (.cons hx2 .nil)⟩⟩
      rw [List.getElem?_map, (List.getElem?_zip_eq_some (z := (z1, z2))).mpr ⟨hz1, hz2⟩]
      rfl
  · obtain ⟨v, w, rfl, h, h'⟩ := iss2 hx
    cases h with | tup n e hs =>
    cases h' with | tup n' e' hs' =>
    rename_i l l' _ us _ us'
    refine ⟨_, _, us, us', rfl, .inr ⟨SqT.of e, SqT.of e', q _ H2 _ (fun H' => SqT X.K H' _ us ∧ SqT X.K H' _ us') (YPair (fun i => us[i]?) (fun i => us'[i]?)) u2 i2 ?_ ⟨fun H' u' => ⟨SqT.of (u' _ _ n e), SqT.of (u' _ _ n' e')⟩, fun i H' x H'' hi u' y => ?_⟩ px⟩⟩
    · exact walk_zipT (by rw [List.length_map, List.length_zip, ← hs.len, ← hs'.len])
    · obtain ⟨Tn, x1, x2, rfl, hn, rfl, e1, e2⟩ := y
      obtain ⟨z1, hz1, hx1⟩ := hs.getL e1
      obtain ⟨z2, hz2, hx2⟩ := hs'.getL e2
      refine ⟨.tup [z1, z2], ?_, .inr ⟨Tn, _, _, rfl, rfl, hn, rfl, .cons hx1 (.cons hx2 .nil)⟩⟩
      rw [List.getElem?_map, (List.getElem?_zip_eq_some (z := (z1, z2))).mpr ⟨hz1, hz2⟩]
      rfl
  · exact px.elim⟩
end
end Uv
set_option Elab.async false
set_option linter.all false
set_option maxRecDepth 100000
set_option maxHeartbeats 4000000
namespace Uv
open PySem L2 Inn PySem.Spec PyProof.Rows
/-! ### comprehensions -/
def mapIf (t : D → M Bool) (f : D → M D) : List D → M (List D)
  | [] => fun R => R []
  | d :: ds => fun R => t d fun b => ite2 b (f d fun y => mapIf t f ds fun ys => R (y :: ys)) (mapIf t f ds R)
def mapD (f : D → M D) : List D → M (List D)
  | [] => fun R => R []
  | d :: ds => fun R => f d fun y => mapD f ds fun ys => R (y :: ys)
theorem mapIf_yes {f : D → M D} : ∀ {ds : List D}, mapIf (fun _ => rt true) f ds = mapD f ds
  | [] => rfl
  | d :: ds => by
    funext R
    show (f d fun y => mapIf (fun _ => rt true) f ds fun ys => R (y :: ys)) = _
    rw [mapIf_yes (ds := ds)]
    rfl
def lcM (it : M (List D)) (f : D → M D) : M D := fun R => it fun ds => ds.length ≤ sizeLine ∧ mapD f ds fun ys => R (.lst ys)
def lcIfM (it : M (List D)) (t : D → M Bool) (f : D → M D) : M D := fun R => it fun ds => ds.length ≤ sizeLine ∧ mapIf t f ds fun ys => R (.lst ys)
def un2 {α : Type} (k : D → D → M α) : D → M α
  | .tup [x, y] => k x y
  | _ => fail
def wipeD (ρ : List (Option D)) : List Nat → List (Option D)
  | [] => ρ
  | v :: vs => (wipeD ρ vs).set v none
section
variable {T : Ct} {X : Cx} {W W0 : Wo} {σ : L2.St} {H H0 : Hp} {pos p pc : Pos} {e elt tg iter : Expr} {es : List Expr} {m : M D} {mi : M (List D)} {ρ : List (Option D)} {scope : Scope} {own : List (Str × Nat)} {ifs : List Expr}
theorem Sees.wipe (h : Sees T W σ H ρ) : ∀ vs : List Nat, Sees T W (L2.wipe σ vs) H (wipeD ρ vs)
  | [] => h
  | v :: vs => (Sees.wipe h vs).unset v
def tBx (X : Cx) (scope : Scope) (e : Expr) : TE := fun σ H Q => ∀ (s : Shared) (H' : Hp) (C : Addr) (cl : List (Str × Addr)) (fp : List Addr), ∃ t, PE (X.blk s H' scope (compEnvC scope cl C X.env) fp) e t ∧ t σ H Q
theorem pe_tBx {s : Shared} {H' : Hp} {C : Addr} {cl : List (Str × Addr)} {fp : List Addr} : PE (X.blk s H' scope (compEnvC scope cl C X.env) fp) e (tBx X scope e) :=
  ⟨fun pins s1 σ H Q I h => let ⟨t, pt, q⟩ := h s H' C cl fp; pt.run pins s1 σ H Q I q⟩
/-- where a comprehension stands: at turn i, the list at D -/
structure LcI (T : Ct) (W : Wo) (H2 : Hp) (Dn : Addr) (ds : List D) (t : D → M Bool) (f : D → M D) (R : D → Prop) (i : Nat) (H' : Hp) : Prop where
  ex : ∃ us ys, Up (Wg W Dn us).toWld H2 H' ∧ (Wg W Dn us).I H' ∧ Iss T (Wg W Dn us) H' us ys ∧ us.length ≤ i ∧ mapIf t f (ds.drop i) fun zs => R (.lst (ys ++ zs))
/-- a comprehension as a value or as a name's new value -/
def Dc (T : Ct) (X : Cx) (W : Wo) (e : Expr) (σ : L2.St) (H : Hp) (m : M D) : Prop :=
  ∀ R, m R → ∃ te, PE X e te ∧ (∀ {i : Nat} {y : Str} {py spos : Pos}, X.N[i]? = some y → X.env.scope.names.lookup y = some .local → swapsWith e (some (.Name y py)) spos.line X.env = pure true → PS X (.Assign [.Name y py] e spos) (tAsg te (gName i))) ∧ Ev T W te σ H R
theorem Dc.dw (h : Dc T X W e σ H m) : Dw T X W e σ H m := fun R hm => let ⟨te, pe, _, ev⟩ := h R hm; ⟨te, pe, ev⟩
theorem dc_core {t : D → M Bool} {f : D → M D} {bnd : D → List (Option D) → Prop} {g : TG} {tt : TT} (hit : Iw T X W tg iter σ H mi) (hS : Sees T W σ H ρ) (hc : X.calm = true) (hN : X.N.Nodup) (ok : BlkOk X.N X.env.scope scope own)
    (hg : ∀ (s : Shared) (H : Hp) (C : Addr) (cl : List (Str × Addr)) (fp : List Addr), PG (X.blk s H scope (compEnvC scope cl C X.env) fp) tg g)
    (ht : ∀ (s : Shared) (H : Hp) (C : Addr) (cl : List (Str × Addr)) (fp : List Addr), PTs (X.blk s H scope (compEnvC scope cl C X.env) fp) ifs tt)
    (htg : ∀ (W' : Wo) (H' : Hp) v d R (Q : L2.St → Hp → Prop), Sees T W' (L2.wipe σ (own.map (·.2))) H' (wipeD ρ (own.map (·.2))) → Is T W' H' v d → t d R → (∀ σ2 ρ2, Sees T W' σ2 H' ρ2 → bnd d ρ2 → L2.wipe σ2 (own.map (·.2)) = L2.wipe σ (own.map (·.2)) → Q σ2 H') → g v (L2.wipe σ (own.map (·.2))) H' Q)
    (htt : ∀ (W' : Wo) σ2 H' d ρ2 R (Q : Bool → Hp → Prop), Sees T W' σ2 H' ρ2 → W'.I H' → bnd d ρ2 → t d R → (∀ k H2, Up W'.toWld H' H2 → W'.I H2 → R k → Q k H2) → tt σ2 H' Q)
    (he : ∀ (s : Shared) (Hb : Hp) (C : Addr) (cl : List (Str × Addr)) (fp : List Addr) (W' : Wo) σ2 H' d ρ2, Sees T W' σ2 H' ρ2 → bnd d ρ2 → Dw T (X.blk s Hb scope (compEnvC scope cl C X.env) fp) W' elt σ2 H' (f d))
    (hs : ∀ x, foldedSetIterable iter X.env x = pure x := by intro _; rfl) : Dc T X W (.ListComp elt [⟨tg, iter, ifs, 0⟩] scope pc) σ H (lcIfM mi t f) := by
  intro R hm
  obtain ⟨wi, pi, vi⟩ := hit _ hm
  refine ⟨_, pe_lc (own := own) hc hN pi ok hg ht (fun _ _ _ _ _ => pe_tBx) hs, fun h1 h2 h3 => ps_setLc (own := own) hc hN h1 h2 h3 pi ok hg ht (fun _ _ _ _ _ => pe_tBx) hs, fun H1 u1 i1 Q q => vi H1 u1 i1 _ fun J H2 ds G Y u2 i2 wk src hr => ?_⟩
  obtain ⟨hl, hr⟩ := hr
  intro Dn hD
  have hnM : ¬ W.M Dn := not_M i2 hD
  have kp : ∀ {us H'}, Up (Wg W Dn us).toWld H2 H' → Up W.toWld H2 H' := fun {us H'} u a o n e => u a o (fun m => m.elim n fun z => ne_of_none e hD z) e
  refine lc_it wk (LcI T W H2 Dn ds t f R) ?_ (fun i H' _ hp => ?_) (fun i x H' H'' hi hp hy => ?_) (fun H' hp => ?_)
  · exact ⟨[], [], fun a o n e => by rw [upd_ne (fun z => n (.inr z))]; exact e, ⟨I_new i2 hD, upd_same⟩, .nil, Nat.le_refl _, by simpa using hr⟩
  · obtain ⟨us, ys, pu, _⟩ := hp.ex
    exact src.st H' (kp pu)
  · obtain ⟨us, ys, pu, pI, ps, pl, pm⟩ := hp.ex
    obtain ⟨d, hd, got⟩ := src.yl i H' x H'' hi (kp pu) hy
    have hdrop : ds.drop i = d :: ds.drop (i + 1) := by
      rw [List.drop_eq_getElem_cons hi]
      rw [List.getElem?_eq_getElem hi] at hd
      rw [Option.some.inj hd]
    rw [hdrop] at pm
    -- the item as data of the inner world
    have st : ∀ {v d'}, Is T W H2 v d' → Is T (Wg W Dn us) H' v d' := fun h => IsD.conv (fun a o n e => ⟨fun m => m.elim n fun z => ne_of_none e hD z, pu a o (fun m => m.elim n fun z => ne_of_none e hD z) e⟩) (pot_ne i2 hD) h
    have sts : ∀ {v d'}, Iss T W H2 v d' → Iss T (Wg W Dn us) H' v d' := fun h => IsDs.conv (fun a o n e => ⟨fun m => m.elim n fun z => ne_of_none e hD z, pu a o (fun m => m.elim n fun z => ne_of_none e hD z) e⟩) (pot_ne i2 hD) h
    have item : Is T (Wg W Dn us) H'' x d ∧ Up (Wg W Dn us).toWld H' H'' ∧ (Wg W Dn us).I H'' := by
      rcases got with ⟨rfl, h⟩ | ⟨p, zs, l, rfl, rfl, hn, rfl, h⟩
      · exact ⟨st h, Up.refl _, pI⟩
      · exact ⟨.tup (not_M pI hn) upd_same (Iss.up (Up.new hn) (sts h)), Up.new hn, I_new pI hn⟩
    obtain ⟨hx, ux, ix⟩ := item
    have sees : Sees T (Wg W Dn us) (L2.wipe σ (own.map (·.2))) H'' (wipeD ρ (own.map (·.2))) := by
      have h0 : Sees T W σ H2 ρ := (hS.up u1).up u2
      have h1 : Sees T (Wg W Dn us) σ H' ρ := ⟨h0.1, fun i d e => let ⟨v, e1, h1⟩ := h0.2 i d e; ⟨v, e1, st h1⟩⟩
      exact (h1.up ux).wipe _
    refine htg _ H'' x d _ _ sees hx pm fun σ2 ρ2 s2 b2 w2 => ⟨w2, htt _ σ2 H'' d ρ2 _ _ s2 ix b2 pm fun k H3 u3 i3 hk => ?_⟩
    cases k with
    | false =>
      rw [if_neg Bool.false_ne_true]
      exact ⟨us, ys, (pu.trans ux).trans u3, i3, (ps.up ux).up u3, Nat.le_succ_of_le pl, hk⟩
    | true =>
      rw [if_pos rfl]
      intro s Hb C cl fp
      obtain ⟨te, pe, ev⟩ := he s Hb C cl fp _ σ2 H3 d ρ2 (s2.up u3) b2 _ hk
      refine ⟨te, pe, ev H3 (Up.refl _) i3 _ fun v H4 y u4 i4 hv hy' => ⟨us, i4.2, Nat.lt_of_le_of_lt pl (Nat.lt_of_lt_of_le hi hl), ?_⟩⟩
      have u14 := ((pu.trans ux).trans u3).trans u4
      refine ⟨us ++ [v], ys ++ [y], fun a o n e => ?_, ⟨I_mut i4.1 hnM, upd_same⟩, ?_, ?_, ?_⟩
      · rw [upd_ne (fun z => n (.inr z))]
        exact u14 a o n e
      · exact ((((ps.up ux).up u3).up u4).gw).app (.cons hv.gw .nil)
      · rw [List.length_append]
        exact Nat.succ_le_succ pl
      · have e : (fun zs => R (.lst ((ys ++ [y]) ++ zs))) = fun zs => R (.lst (ys ++ (y :: zs))) := by
          funext zs
          rw [List.append_assoc]
          rfl
        rw [e]
        exact hy'
  · obtain ⟨us, ys, pu, pI, ps, pl, pm⟩ := hp.ex
    rw [List.drop_length] at pm
    have pm : R (.lst (ys ++ [])) := pm
    rw [List.append_nil] at pm
    exact q _ H' _ (u2.trans (kp pu)) pI.1 (.lst hnM pI.2 ps.wk) pm
theorem wipe1 {σ : L2.St} {i : Nat} {v : V} : L2.wipe ((L2.wipe σ [i]).set i (some v)) [i] = L2.wipe σ [i] := by
  show (((σ.set i none).set i (some v)).set i none) = σ.set i none
  rw [List.set_set, List.set_set]
theorem wipe2 {σ : L2.St} {i j : Nat} {v w : V} (h : i ≠ j) : L2.wipe (((L2.wipe σ [i, j]).set i (some v)).set j (some w)) [i, j] = L2.wipe σ [i, j] := by
  have e : ∀ B : L2.St, ((((B.set i none).set i (some v)).set j (some w)).set j none).set i none = (B.set j none).set i none := fun B => by
    rw [List.set_set, List.set_set, List.set_comm (l := B.set i (some v)) none none h.symm, List.set_set, List.set_comm none none h]
  show ((((((σ.set j none).set i none).set i (some v)).set j (some w)).set j none).set i none) = (σ.set j none).set i none
  rw [e, List.set_set]
/-- [elt for x in it] -/
theorem dc_1 (i : Nat) {x : Str} {px : Pos} {f : D → M D} (hit : Iw T X W (.Name x px) iter σ H mi) (hS : Sees T W σ H ρ)
    (he : ∀ (s : Shared) (Hb : Hp) (C : Addr) (cl : List (Str × Addr)) (fp : List Addr) (W' : Wo) σ2 H' d, Sees T W' σ2 H' ((wipeD ρ [i]).set i (some d)) → Dw T (X.blk s Hb scope (compEnvC scope cl C X.env) fp) W' elt σ2 H' (f d))
    (hc : X.calm = true) (hN : X.N.Nodup) (ok : BlkOk X.N X.env.scope scope [(x, i)])
    (hg : ∀ (s : Shared) (H : Hp) (C : Addr) (cl : List (Str × Addr)) (fp : List Addr), PG (X.blk s H scope (compEnvC scope cl C X.env) fp) (.Name x px) (gName i)) (hs : ∀ x, foldedSetIterable iter X.env x = pure x := by intro _; rfl) :
    Dc T X W (.ListComp elt [⟨.Name x px, iter, [], 0⟩] scope pc) σ H (lcM mi f) := by
  have h := dc_core (pc := pc) (own := [(x, i)]) (t := fun _ => rt true) (bnd := fun d ρ2 => ρ2 = (wipeD ρ [i]).set i (some d)) hit hS hc hN ok hg (fun _ _ _ _ _ => pts_nil)
    (fun W' H' v d R Q s hv _ q => q _ _ (s.set i hv) rfl wipe1) (fun W' σ2 H' d ρ2 R Q s hI b ht q => q true H' (Up.refl _) hI ht) (fun s Hb C cl fp W' σ2 H' d ρ2 se b => by subst b; exact he s Hb C cl fp W' σ2 H' d se) hs
  unfold lcIfM at h
  simp only [mapIf_yes] at h
  exact h
/-- [elt for x, y in it] -/
theorem un2_of {α : Type} {k : D → D → M α} {d : D} {R : α → Prop} (h : un2 k d R) : ∃ x y, d = .tup [x, y] := by
  unfold un2 at h
  split at h
  · exact ⟨_, _, rfl⟩
  · exact h.elim
theorem dc_2 (i j : Nat) {x y : Str} {px py pt : Pos} {kt : Nat} {f : D → D → M D} (hit : Iw T X W (.Tuple [.Name x px, .Name y py] kt pt) iter σ H mi) (hS : Sees T W σ H ρ) (hij : i ≠ j)
    (he : ∀ (s : Shared) (Hb : Hp) (C : Addr) (cl : List (Str × Addr)) (fp : List Addr) (W' : Wo) σ2 H' d e, Sees T W' σ2 H' (((wipeD ρ [i, j]).set i (some d)).set j (some e)) → Dw T (X.blk s Hb scope (compEnvC scope cl C X.env) fp) W' elt σ2 H' (f d e))
    (hc : X.calm = true) (hN : X.N.Nodup) (ok : BlkOk X.N X.env.scope scope [(x, i), (y, j)])
    (hg : ∀ (s : Shared) (H : Hp) (C : Addr) (cl : List (Str × Addr)) (fp : List Addr), PG (X.blk s H scope (compEnvC scope cl C X.env) fp) (.Tuple [.Name x px, .Name y py] kt pt) (gTup X.K 2 (gCons (gName i) (gCons (gName j) gNil)))) (hs : ∀ x, foldedSetIterable iter X.env x = pure x := by intro _; rfl) :
    Dc T X W (.ListComp elt [⟨.Tuple [.Name x px, .Name y py] kt pt, iter, [], 0⟩] scope pc) σ H (lcM mi (un2 f)) := by
  have h := dc_core (pc := pc) (own := [(x, i), (y, j)]) (f := un2 f) (t := fun d => un2 (fun _ _ => rt true) d) (bnd := fun d ρ2 => ∃ a b, d = .tup [a, b] ∧ ρ2 = ((wipeD ρ [i, j]).set i (some a)).set j (some b)) hit hS hc hN ok hg (fun _ _ _ _ _ => pts_nil)
    (fun W' H' v d R Q s hv hT q => by
      obtain ⟨a, b, rfl⟩ := un2_of hT
      cases hv with | tup n e hs =>
      obtain ⟨u, w, rfl, h1, h2⟩ := iss2 hs
      exact ⟨_, _, rfl, SqT.of e, rfl, u, _, rfl, w, _, rfl, rfl, q _ _ ((s.set i h1).set j h2) ⟨a, b, rfl, rfl⟩ (wipe2 hij)⟩)
    (fun W' σ2 H' d ρ2 R Q s hI b hT q => by
      obtain ⟨a, c, rfl, rfl⟩ := b
      exact q true H' (Up.refl _) hI hT) (fun s Hb C cl fp W' σ2 H' d ρ2 se b => by
      obtain ⟨a, c, rfl, rfl⟩ := b
      exact he s Hb C cl fp W' σ2 H' a c se) hs
  have e : ∀ ds, mapIf (fun d => un2 (fun _ _ => rt true) d) (un2 f) ds = mapD (un2 f) ds := by
    intro ds
    induction ds with
    | nil => rfl
    | cons d ds ih =>
      funext R
      by_cases hd : ∃ a b, d = .tup [a, b]
      · obtain ⟨a, b, rfl⟩ := hd
        show (un2 f (.tup [a, b]) fun y => mapIf (fun d => un2 (fun _ _ => rt true) d) (un2 f) ds fun ys => R (y :: ys)) = _
        rw [ih]
        rfl
      · have no : ∀ {α : Type} {k : D → D → M α} {R : α → Prop}, un2 k d R = False := fun {α k R} => eq_false fun h => hd (un2_of h)
        show un2 _ d _ = un2 _ d _
        rw [no, no]
  unfold lcIfM at h
  simp only [e] at h
  exact h
end
end Uv
set_option Elab.async false
set_option linter.all false
set_option maxRecDepth 100000
set_option maxHeartbeats 4000000
namespace Uv
open PySem L2 Inn PySem.Spec PyProof.Rows
/-! ### loops by what they ask -/
def forC {S : Type} (f : D → S → (S → Prop) → (S → Prop) → Prop) (k : S → Prop) : List D → S → Prop
  | [], s => k s
  | d :: ds, s => f d s (fun s' => forC f k ds s') k
def loopC {S : Type} (c : S → M Bool) (f : S → (S → Prop) → (S → Prop) → Prop) (k : S → Prop) : Nat → S → Prop
  | 0, _ => False
  | n + 1, s => c s fun b => ite2 b (f s (loopC c f k n) k) (k s)
def whC {S : Type} (c : S → M Bool) (f : S → (S → Prop) → (S → Prop) → Prop) (k : S → Prop) (s : S) : Prop := ∃ n, loopC c f k n s
def un2F {S : Type} (f : D → D → S → (S → Prop) → (S → Prop) → Prop) : D → S → (S → Prop) → (S → Prop) → Prop
  | .tup [x, y], s, nx, bk => f x y s nx bk
  | _, _, _, _ => False
section
variable {T : Ct} {X : Cx} {W W0 : Wo} {σ : L2.St} {H H0 H1 : Hp} {pos p pc px py pz pt pt2 : Pos} {a b c e iter : Expr} {es : List Expr} {m ma mb : M D} {ml mi : M (List D)} {mt : M Bool} {ρ ρ1 : List (Option D)} {D' : Ends} {sts body be : List Stmt} {nm n1 n2 n3 : Str} {P : D → Prop} {kt k2 : Nat}
theorem Now.join (a : Now T W0 W H0 σ H ρ) {σ1 : L2.St} (b : Now T W W H σ1 H1 ρ1) : Now T W0 W H0 σ1 H1 ρ1 := ⟨fun x o n e => b.up x o (a.rel x o n e) (a.up x o n e), a.rel, b.inv, b.see⟩
theorem Now.base (a : Now T W0 W H0 σ H ρ) : Now T W W H σ H ρ := ⟨Up.refl _, fun _ _ n _ => n, a.inv, a.see⟩
theorem w_set (i : Nat) {pos' : Pos} (n : Now T W0 W H0 σ H ρ) (he : Dw T X W e σ H m) (hm : m P) (nd : X.N.Nodup) (k : ∀ d σ1 H1, Now T W0 W H0 σ1 H1 (ρ.set i (some d)) → P d → Wss X sts D' σ1 H1)
    (hi : X.N[i]? = some nm := by rfl) (hx : Loc X.env.scope nm := by first | exact Or.inl rfl | exact Or.inr rfl) (hs : swapsWith e (some (.Name nm pos')) pos.line X.env = pure false := by rfl) (hf : X.fn nm = true ∨ X.env.scope.names.lookup nm = some .local := by first | exact .inl rfl | exact .inr rfl) :
    Wss X (.Assign [.Name nm pos'] e pos :: sts) D' σ H :=
  ⟨_, pss_cons (ps_set nd hi hx pe_any hs hf) wss_all, he.go hm (Up.refl _) n.inv fun v H1 d u i1 hd pd => k d _ H1 ((n.go u i1).set i hd) pd⟩
/-- name = [..] -/
theorem w_setC (i : Nat) {pos' : Pos} (n : Now T W0 W H0 σ H ρ) (he : Dc T X W e σ H m) (hm : m P) (k : ∀ d σ1 H1, Now T W0 W H0 σ1 H1 (ρ.set i (some d)) → P d → Wss X sts D' σ1 H1)
    (hi : X.N[i]? = some nm := by rfl) (hx : X.env.scope.names.lookup nm = some .local := by rfl) (hs : swapsWith e (some (.Name nm pos')) pos.line X.env = pure true := by rfl) :
    Wss X (.Assign [.Name nm pos'] e pos :: sts) D' σ H := by
  obtain ⟨te, pe, ps, ev⟩ := he P hm
  exact ⟨_, pss_cons (ps hi hx hs) wss_all, ev H (Up.refl _) n.inv _ fun v H1 d u i1 hd pd => k d _ H1 ((n.go u i1).set i hd) pd⟩
theorem w_ret (n : Now T W0 W H0 σ H ρ) (he : Dw T X W e σ H m) (hm : m P) (k : ∀ d v H1, P d → Up W.toWld H H1 → W.I H1 → Is T W H1 v d → D'.rt v H1) : Wss X (.Return (some e) pos :: sts) D' σ H :=
  ⟨_, pss_cons (ps_ret pe_any) wss_all, he.go hm (Up.refl _) n.inv fun v H1 d u i1 hd pd => k d v H1 pd u i1 hd⟩
theorem w_nil (k : D'.nx σ H) : Wss X [] D' σ H := ⟨_, pss_nil, k⟩
/-- a value is dropped -/
theorem w_expr (n : Now T W0 W H0 σ H ρ) (he : Dw T X W e σ H m) (hm : m P) (k : ∀ d H1, Now T W0 W H0 σ H1 ρ → P d → Wss X sts D' σ H1) (hs : swapsWith e none pos.line X.env = pure false := by rfl) : Wss X (.Expr e pos :: sts) D' σ H :=
  ⟨_, pss_cons (ps_expr pe_any hs) wss_all, he.go hm (Up.refl _) n.inv fun v H1 d u i1 hd pd => k d H1 (n.go u i1) pd⟩
theorem w_if {A B : Prop} (n : Now T W0 W H0 σ H ρ) (hc : Tw X W c σ H mt) (hm : mt fun b => ite2 b A B) (k1 : ∀ H1, Now T W0 W H0 σ H1 ρ → A → Wss X body { D' with nx := fun σ' H' => Wss X sts D' σ' H' } σ H1)
    (k2 : ∀ H1, Now T W0 W H0 σ H1 ρ → B → Wss X be { D' with nx := fun σ' H' => Wss X sts D' σ' H' } σ H1) : Wss X (.If c body be pos :: sts) D' σ H :=
  ⟨_, pss_cons (ps_if pt_any wss_all wss_all) wss_all, hc.go hm (Up.refl _) n.inv fun b H1 u i1 pb => by
    cases b with
    | true =>
      rw [if_pos rfl]
      exact k1 H1 (n.go u i1) pb
    | false =>
      rw [if_neg Bool.false_ne_true]
      exact k2 H1 (n.go u i1) pb⟩
theorem w_par (i j : Nat) {P : List D → Prop} (n : Now T W0 W H0 σ H ρ) (ha : Lw T X W [a, b] σ H ml) (hm : ml P) (hc : X.calm = true) (nd : X.N.Nodup)
    (k : ∀ d1 d2 σ1 H1, Now T W0 W H0 σ1 H1 ((ρ.set i (some d1)).set j (some d2)) → P [d1, d2] → Wss X sts D' σ1 H1) (hl : ∀ xs, P xs → xs.length = 2) (hi : X.N[i]? = some n1 := by rfl) (hj : X.N[j]? = some n2 := by rfl) (hij : i ≠ j := by decide)
    (hx : X.env.scope.names.lookup n1 = some .local := by rfl) (hy : X.env.scope.names.lookup n2 = some .local := by rfl)
    (hw : swappedStores [.Tuple [.Name n1 px, .Name n2 py] kt pt] (.Tuple [a, b] k2 pt2) X.env = pure (some [n1, n2]) := by rfl)
    (hs : swapsWithSole [.Tuple [.Name n1 px, .Name n2 py] kt pt] (.Tuple [a, b] k2 pt2) pos.line X.env = pure false := by rfl) :
    Wss X (.Assign [.Tuple [.Name n1 px, .Name n2 py] kt pt] (.Tuple [a, b] k2 pt2) pos :: sts) D' σ H := by
  refine ⟨_, pss_cons (ps_par hc nd hi hj hij hx hy pa_any hw hs) wss_all, ha.go hm (Up.refl _) n.inv fun vs H1 ds u i1 hd pd => ?_⟩
  have e := hl ds pd
  match ds, e with
  | [d1, d2], _ =>
    obtain ⟨v, w, rfl, h1, h2⟩ := iss2 hd
    exact ⟨v, w, rfl, k d1 d2 _ H1 (((n.go u i1).set i h1).set j h2) pd⟩
theorem w_par3 (i j l : Nat) {P : List D → Prop} (n : Now T W0 W H0 σ H ρ) (ha : Lw T X W [a, b, c] σ H ml) (hm : ml P) (hc : X.calm = true) (nd : X.N.Nodup)
    (k : ∀ d1 d2 d3 σ1 H1, Now T W0 W H0 σ1 H1 (((ρ.set i (some d1)).set j (some d2)).set l (some d3)) → P [d1, d2, d3] → Wss X sts D' σ1 H1) (hl : ∀ xs, P xs → xs.length = 3) (hi : X.N[i]? = some n1 := by rfl) (hj : X.N[j]? = some n2 := by rfl) (hl' : X.N[l]? = some n3 := by rfl) (hij : i ≠ j := by decide) (hil : i ≠ l := by decide) (hjl : j ≠ l := by decide)
    (hx : X.env.scope.names.lookup n1 = some .local := by rfl) (hy : X.env.scope.names.lookup n2 = some .local := by rfl) (hz : X.env.scope.names.lookup n3 = some .local := by rfl)
    (hw : swappedStores [.Tuple [.Name n1 px, .Name n2 py, .Name n3 pz] kt pt] (.Tuple [a, b, c] k2 pt2) X.env = pure (some [n1, n2, n3]) := by rfl)
    (hs : swapsWithSole [.Tuple [.Name n1 px, .Name n2 py, .Name n3 pz] kt pt] (.Tuple [a, b, c] k2 pt2) pos.line X.env = pure false := by rfl) :
    Wss X (.Assign [.Tuple [.Name n1 px, .Name n2 py, .Name n3 pz] kt pt] (.Tuple [a, b, c] k2 pt2) pos :: sts) D' σ H := by
  refine ⟨_, pss_cons (ps_par3 hc nd hi hj hl' hij hil hjl hx hy hz pa_any hw hs) wss_all, ha.go hm (Up.refl _) n.inv fun vs H1 ds u i1 hd pd => ?_⟩
  have e := hl ds pd
  match ds, e with
  | [d1, d2, d3], _ =>
    cases hd with | cons h1 t =>
    obtain ⟨v, w, rfl, h2, h3⟩ := iss2 t
    exact ⟨_, v, w, rfl, k d1 d2 d3 _ H1 ((((n.go u i1).set i h1).set j h2).set l h3) pd⟩
/-- targets that are names -/
inductive Tgs (X : Cx) : List Expr → List Nat → TGs → Prop where
  | nil : Tgs X [] [] gNil
  | cons {x : Str} {i : Nat} {ts : List Expr} {is : List Nat} {g : TGs} {q : Pos} (hi : X.N[i]? = some x) (hx : L2.Loc X.env.scope x) (hf : X.fn x = true ∨ X.env.scope.names.lookup x = some .local) (ha : (assignEach (.Name x q :: ts) X.env).map (·.2) = assign (.Name x q) X.env :: (assignEach ts X.env).map (·.2)) (r : Tgs X ts is g) : Tgs X (.Name x q :: ts) (i :: is) (gCons (gName i) g)
def setMany : List Nat → List D → List (Option D) → List (Option D)
  | i :: is, d :: ds, ρ => setMany is ds (ρ.set i (some d))
  | _, _, ρ => ρ
theorem tgs_pgs (nd : X.N.Nodup) : ∀ {ts : List Expr} {is : List Nat} {g : TGs}, Tgs X ts is g → PGs X ts g
  | _, _, _, .nil => pgs_nil
  | _, _, _, .cons hi hx hf ha r => pgs_cons (pg_name nd hi hx hf) (tgs_pgs nd r) ha
theorem tgs_go : ∀ {ts : List Expr} {is : List Nat} {g : TGs} {vs : List V} {ds : List D} {σ : L2.St} {ρ : List (Option D)} {Q : L2.St → Hp → Prop}, Tgs X ts is g → is.length = ds.length → Iss T W H1 vs ds → Sees T W σ H1 ρ → (∀ σ1, Sees T W σ1 H1 (setMany is ds ρ) → Q σ1 H1) → g vs σ H1 Q
  | _, _, _, _, _, _, _, _, .nil, hl, hv, s, q => by
    cases hv with
    | nil => exact ⟨rfl, q _ s⟩
    | cons _ _ => cases hl
  | _, _, _, _, _, _, _, _, .cons hi hx hf ha r, hl, hv, s, q => by
    cases hv with
    | nil => cases hl
    | cons h t => exact ⟨_, _, rfl, tgs_go r (Nat.succ.inj hl) t (s.set _ h) q⟩
/-- a, b, .. = e -/
def unP (n : Nat) (k : List D → Prop) : D → Prop
  | .tup l => l.length = n ∧ k l
  | .lst l => l.length = n ∧ k l
  | _ => False
theorem pg_seq {es : List Expr} {t : TGs} {n : Nat} (hc : X.calm = true) (h : PGs X es t) (hn : (assignEach es X.env).length = n := by rfl) (hst : (assignEach es X.env).findIdx? (·.1) = none := by rfl) : PG X (.Tuple es kt pt) (fun v σ H Q => gTup X.K n t v σ H Q ∨ gUnl X.K n t v σ H Q) :=
  ⟨fun pins s σ H v u Q I r hw => hw.elim (fun z => (pg_tup hc h hn hst).run pins s σ H v u Q I r z) fun z => (pg_unl hc h hn hst).run pins s σ H v u Q I r z⟩
theorem w_unp {ts : List Expr} {is : List Nat} {g : TGs} {P : List D → Prop} (n : Now T W0 W H0 σ H ρ) (tg : Tgs X ts is g) (he : Dw T X W e σ H m) (hm : m (unP is.length P)) (nd : X.N.Nodup) (hc : X.calm = true)
    (k : ∀ ds σ1 H1, ds.length = is.length → Now T W0 W H0 σ1 H1 (setMany is ds ρ) → P ds → Wss X sts D' σ1 H1) (hn : (assignEach ts X.env).length = is.length := by rfl) (hst : (assignEach ts X.env).findIdx? (·.1) = none := by rfl)
    (hs : swapsWithSole [.Tuple ts kt pt] e pos.line X.env = pure false := by rfl) (hw : swappedStores [.Tuple ts kt pt] e X.env = pure none := by rfl) (h1 : (assignEach [.Tuple ts kt pt] X.env).map (·.2) = [assign (.Tuple ts kt pt) X.env] := by rfl) : Wss X (.Assign [.Tuple ts kt pt] e pos :: sts) D' σ H := by
  refine ⟨_, pss_cons (ps_asg pe_any (pg_seq (n := is.length) hc (tgs_pgs nd tg) hn hst) hs hw h1) wss_all, he.go hm (Up.refl _) n.inv fun v H1 d u i1 hd pd => ?_⟩
  unfold unP at pd
  split at pd
  · obtain ⟨hl, pd⟩ := pd
    cases hd with | tup nM ee hv =>
    exact .inl ⟨_, _, rfl, SqT.of ee, hv.len.trans hl, tgs_go tg hl.symm hv (n.see.up u) fun σ1 s1 => k _ σ1 H1 hl ⟨(n.go u i1).up, n.rel, i1, s1⟩ pd⟩
  · obtain ⟨hl, pd⟩ := pd
    cases hd with | lst nM ee hv =>
    exact .inr ⟨_, _, rfl, SqL.of ee, hv.len.trans hl, tgs_go tg hl.symm hv (n.see.up u) fun σ1 s1 => k _ σ1 H1 hl ⟨(n.go u i1).up, n.rel, i1, s1⟩ pd⟩
  · exact pd.elim
/-! ### for -/
theorem w_for {S : Type} {tg : Expr} {g : TG} {ρs : S → List (Option D)} {ρb : S → D → List (Option D) → Prop} {f : D → S → (S → Prop) → (S → Prop) → Prop} {kk : S → Prop} (s0 : S) (n : Now T W0 W H0 σ H ρ) (hit : Iw T X W tg iter σ H mi) (hm : mi fun ds => forC f kk ds s0) (hp : PassesOwn (model X.prog X.w) X.A X.env X.xe) (hc : X.calm = true) (hg : PG X tg g)
    (htg : ∀ s d σ1 H1 v nx bk Q, Sees T W σ1 H1 (ρs s) → Is T W H1 v d → f d s nx bk → (∀ σ2 ρ2, Sees T W σ2 H1 ρ2 → ρb s d ρ2 → Q σ2 H1) → g v σ1 H1 Q)
    (h0 : ∀ H2, Now T W0 W H0 σ H2 ρ → Now T W0 W H0 σ H2 (ρs s0))
    (hs : ∀ H2, Now T W0 W H0 σ H2 ρ → ∀ d s nx bk (Nx Bk : L2.St → Hp → Prop) σ1 H1 ρ2, Now T W W H2 σ1 H1 ρ2 → ρb s d ρ2 → (∀ s2 σ2 H3, Now T W W H2 σ2 H3 (ρs s2) → nx s2 → Nx σ2 H3) → (∀ s2 σ2 H3, Now T W W H2 σ2 H3 (ρs s2) → bk s2 → Bk σ2 H3) → f d s nx bk → Wss X body { D' with nx := Nx, ct := Nx, bk := Bk } σ1 H1)
    (hd : ∀ s σ1 H1, Now T W0 W H0 σ1 H1 (ρs s) → kk s → Wss X sts D' σ1 H1) (hfs : ∀ x, foldedSetIterable iter X.env x = pure x := by intro _; rfl) : Wss X (.For tg iter body [] pos :: sts) D' σ H := by
  obtain ⟨wi, pi, vi⟩ := hit _ hm
  refine ⟨_, pss_cons (ps_for hp hc pi hg wss_all hfs) wss_all, vi H (Up.refl _) n.inv _ fun J H2 ds G Y u2 i2 wk src hr => ?_⟩
  have nO := n.go u2 i2
  have back : ∀ {s σ1 H1}, Now T W W H2 σ1 H1 (ρs s) → Now T W0 W H0 σ1 H1 (ρs s) := fun b => nO.join b
  refine for_it wk (fun i σ1 H1 => ∃ s, Now T W W H2 σ1 H1 (ρs s) ∧ forC f kk (ds.drop i) s) ⟨s0, (h0 H2 nO).base, by simpa using hr⟩ (fun i σ1 H1 _ hp => ?_) (fun i x σ1 H1 H3 hi hp hy => ?_) (fun σ1 H1 hp => ?_)
  · obtain ⟨s, ns, _⟩ := hp
    exact src.st H1 ns.up
  · obtain ⟨s, ns, pm⟩ := hp
    obtain ⟨d, hd', got⟩ := src.yl i H1 x H3 hi ns.up hy
    have hdrop : ds.drop i = d :: ds.drop (i + 1) := by
      rw [List.drop_eq_getElem_cons hi]
      rw [List.getElem?_eq_getElem hi] at hd'
      rw [Option.some.inj hd']
    rw [hdrop] at pm
    have item : Is T W H3 x d ∧ Up W.toWld H1 H3 ∧ W.I H3 := by
      rcases got with ⟨rfl, h⟩ | ⟨p, zs, l, rfl, rfl, hn, rfl, h⟩
      · exact ⟨h.up ns.up, Up.refl _, ns.inv⟩
      · exact ⟨.tup (not_M ns.inv hn) upd_same (Iss.up (Up.new hn) (h.up ns.up)), Up.new hn, I_new ns.inv hn⟩
    obtain ⟨hx, ux, ix⟩ := item
    have n3 := ns.go ux ix
    refine htg s d σ1 H3 x _ _ _ n3.see hx pm fun σ2 ρ2 s2 b2 => ?_
    exact hs H2 nO d s _ _ _ _ σ2 H3 ρ2 ⟨n3.up, n3.rel, ix, s2⟩ b2 (fun s2 σ3 H4 n4 h4 => ⟨s2, n4, h4⟩) (fun s2 σ3 H4 n4 h4 => hd s2 σ3 H4 (back n4) h4) pm
  · obtain ⟨s, ns, pm⟩ := hp
    rw [List.drop_length] at pm
    exact hd s σ1 H1 (back ns) pm
/-- for x in it -/
theorem w_for1 {S : Type} (i : Nat) {x : Str} (ρs : S → List (Option D)) {f : D → S → (S → Prop) → (S → Prop) → Prop} {kk : S → Prop} (s0 : S) (n : Now T W0 W H0 σ H ρ) (hit : Iw T X W (.Name x px) iter σ H mi) (hm : mi fun ds => forC f kk ds s0) (nd : X.N.Nodup) (hp : PassesOwn (model X.prog X.w) X.A X.env X.xe) (hc : X.calm = true)
    (h0 : ∀ H2, Now T W0 W H0 σ H2 ρ → Now T W0 W H0 σ H2 (ρs s0))
    (hs : ∀ H2, Now T W0 W H0 σ H2 ρ → ∀ d s nx bk (Nx Bk : L2.St → Hp → Prop) σ1 H1, Now T W W H2 σ1 H1 ((ρs s).set i (some d)) → (∀ s2 σ2 H3, Now T W W H2 σ2 H3 (ρs s2) → nx s2 → Nx σ2 H3) → (∀ s2 σ2 H3, Now T W W H2 σ2 H3 (ρs s2) → bk s2 → Bk σ2 H3) → f d s nx bk → Wss X body { D' with nx := Nx, ct := Nx, bk := Bk } σ1 H1)
    (hd : ∀ s σ1 H1, Now T W0 W H0 σ1 H1 (ρs s) → kk s → Wss X sts D' σ1 H1) (hN : X.N[i]? = some x := by rfl) (hx : L2.Loc X.env.scope x := by first | exact Or.inl rfl | exact Or.inr rfl) (hf : X.fn x = true ∨ X.env.scope.names.lookup x = some .local := by first | exact .inl rfl | exact .inr rfl)
    (hfs : ∀ x, foldedSetIterable iter X.env x = pure x := by intro _; rfl) : Wss X (.For (.Name x px) iter body [] pos :: sts) D' σ H :=
  w_for (ρb := fun s d ρ2 => ρ2 = (ρs s).set i (some d)) s0 n hit hm hp hc (pg_name (i := i) nd hN hx hf) (fun s d σ1 H1 v nx bk Q se hv _ q => q _ _ (se.set i hv) rfl) h0
    (fun H2 nO d s nx bk Nx Bk σ1 H1 ρ2 n2 e h1 h2 h3 => by subst e; exact hs H2 nO d s nx bk Nx Bk σ1 H1 n2 h1 h2 h3) hd hfs
/-- for x, y in it -/
theorem w_for2 {S : Type} (i j : Nat) {x y : Str} (ρs : S → List (Option D)) {f : D → D → S → (S → Prop) → (S → Prop) → Prop} {kk : S → Prop} (s0 : S) (n : Now T W0 W H0 σ H ρ) (hit : Iw T X W (.Tuple [.Name x px, .Name y py] kt pt) iter σ H mi) (hm : mi fun ds => forC (un2F f) kk ds s0) (nd : X.N.Nodup) (hp : PassesOwn (model X.prog X.w) X.A X.env X.xe) (hc : X.calm = true)
    (h0 : ∀ H2, Now T W0 W H0 σ H2 ρ → Now T W0 W H0 σ H2 (ρs s0))
    (hs : ∀ H2, Now T W0 W H0 σ H2 ρ → ∀ d e s nx bk (Nx Bk : L2.St → Hp → Prop) σ1 H1, Now T W W H2 σ1 H1 (((ρs s).set i (some d)).set j (some e)) → (∀ s2 σ2 H3, Now T W W H2 σ2 H3 (ρs s2) → nx s2 → Nx σ2 H3) → (∀ s2 σ2 H3, Now T W W H2 σ2 H3 (ρs s2) → bk s2 → Bk σ2 H3) → f d e s nx bk → Wss X body { D' with nx := Nx, ct := Nx, bk := Bk } σ1 H1)
    (hd : ∀ s σ1 H1, Now T W0 W H0 σ1 H1 (ρs s) → kk s → Wss X sts D' σ1 H1) (hN1 : X.N[i]? = some x := by rfl) (hN2 : X.N[j]? = some y := by rfl) (hx1 : L2.Loc X.env.scope x := by first | exact Or.inl rfl | exact Or.inr rfl) (hx2 : L2.Loc X.env.scope y := by first | exact Or.inl rfl | exact Or.inr rfl)
    (hf1 : X.fn x = true ∨ X.env.scope.names.lookup x = some .local := by first | exact .inl rfl | exact .inr rfl) (hf2 : X.fn y = true ∨ X.env.scope.names.lookup y = some .local := by first | exact .inl rfl | exact .inr rfl)
    (ha1 : (assignEach (.Name x px :: [.Name y py]) X.env).map (·.2) = assign (.Name x px) X.env :: (assignEach [.Name y py] X.env).map (·.2) := by rfl) (ha2 : (assignEach (.Name y py :: []) X.env).map (·.2) = assign (.Name y py) X.env :: (assignEach [] X.env).map (·.2) := by rfl)
    (hn : (assignEach [.Name x px, .Name y py] X.env).length = 2 := by rfl) (hst : (assignEach [.Name x px, .Name y py] X.env).findIdx? (·.1) = none := by rfl)
    (hfs : ∀ x, foldedSetIterable iter X.env x = pure x := by intro _; rfl) : Wss X (.For (.Tuple [.Name x px, .Name y py] kt pt) iter body [] pos :: sts) D' σ H :=
  w_for (ρb := fun s d ρ2 => ∃ a b, d = .tup [a, b] ∧ ρ2 = ((ρs s).set i (some a)).set j (some b)) s0 n hit hm hp hc (pg_tup hc (pgs_cons (pg_name (i := i) nd hN1 hx1 hf1) (pgs_cons (pg_name (i := j) nd hN2 hx2 hf2) pgs_nil ha2) ha1) hn hst)
    (fun s d σ1 H1 v nx bk Q se hv h q => by
      unfold un2F at h
      split at h
      · cases hv with | tup nM e hs =>
        obtain ⟨u, w, rfl, h1, h2⟩ := iss2 hs
        exact ⟨_, _, rfl, SqT.of e, rfl, u, _, rfl, w, _, rfl, rfl, q _ _ ((se.set i h1).set j h2) ⟨_, _, rfl, rfl⟩⟩
      · exact h.elim) h0
    (fun H2 nO d s nx bk Nx Bk σ1 H1 ρ2 n2 e h1 h2 h3 => by
      obtain ⟨a, b, rfl, rfl⟩ := e
      exact hs H2 nO a b s nx bk Nx Bk σ1 H1 n2 h1 h2 h3) hd hfs
/-- while c -/
theorem w_while {S : Type} (ρs : S → List (Option D)) {cm : S → M Bool} {f : S → (S → Prop) → (S → Prop) → Prop} {kk : S → Prop} (s0 : S) (n : Now T W0 W H0 σ H ρ) (hm : whC cm f kk s0) (hp : PassesOwn (model X.prog X.w) X.A X.env X.xe)
    (h0 : Now T W0 W H0 σ H (ρs s0)) (hc : ∀ s σ1 H1, Now T W0 W H0 σ1 H1 (ρs s) → Tw X W c σ1 H1 (cm s))
    (hs : ∀ s nx bk (Nx Bk : L2.St → Hp → Prop) σ1 H1, Now T W0 W H0 σ1 H1 (ρs s) → (∀ s2 σ2 H3, Now T W0 W H0 σ2 H3 (ρs s2) → nx s2 → Nx σ2 H3) → (∀ s2 σ2 H3, Now T W0 W H0 σ2 H3 (ρs s2) → bk s2 → Bk σ2 H3) → f s nx bk → Wss X body { D' with nx := Nx, ct := Nx, bk := Bk } σ1 H1)
    (hd : ∀ s σ1 H1, Now T W0 W H0 σ1 H1 (ρs s) → kk s → Wss X sts D' σ1 H1) : Wss X (.While c body [] pos :: sts) D' σ H := by
  obtain ⟨n0, hm⟩ := hm
  have hpt : PT X c (ttAny X c) := pt_any
  refine ⟨_, pss_cons (ps_while hp hpt wss_all) wss_all, fun m σ1 H1 => ∃ s, Now T W0 W H0 σ1 H1 (ρs s) ∧ loopC cm f kk m s, ⟨n0, s0, h0, hm⟩, fun m σ1 H1 hw => ?_⟩
  obtain ⟨s, ns, hl⟩ := hw
  cases m with
  | zero => exact hl.elim
  | succ m =>
    refine (hc s σ1 H1 ns).go hl (Up.refl _) ns.inv fun b H2 u2 i2 pb => ?_
    cases b with
    | true => exact ⟨_, fun σ2 H2 z => z, hs s _ _ _ _ σ1 H2 (ns.go u2 i2) (fun s2 σ2 H3 n3 h3 => ⟨m, Nat.lt_succ_self m, s2, n3, h3⟩) (fun s2 σ2 H3 n3 h3 => hd s2 σ2 H3 n3 h3) pb⟩
    | false => exact hd s σ1 H2 (ns.go u2 i2) pb
end
end Uv
set_option Elab.async false
set_option linter.all false
set_option maxRecDepth 100000
set_option maxHeartbeats 4000000
namespace Uv
open PySem L2 Inn PySem.Spec PyProof.Rows
/-! ### promises -/
/-- a def asks s of its arguments; fr: all that it tells is new -/
def SpD (T : Ct) (fr : Bool) (n : Nat) (s : List D → M D) : Sp := fun vs H Q _ => ∃ (W : Wo) (ds : List D) (R : D → Prop), Iss T W H vs ds ∧ ds.length = n ∧ W.I H ∧ s ds R ∧
  ∀ y u H', R y → Up W.toWld H H' → W.I H' → Is T W H' u y → (fr = true → IsD T (fun a => W.M a ∨ ∃ o, H a = some o) W.P H' u y) → Q u H'
def startD (N : List Str) (ds : List D) : List (Option D) := ds.map some ++ List.replicate (N.length - ds.length) none
section
variable {T : Ct} {P : Program} {w : World} {K : PySem.W.Frag} {mg : Str → Option Value} {base : Heap} {x qual : Str} {st : Stmt} {f C : Addr} {fd : FuncData} {N ps : List Str} {k n : Nat} {fr : Bool} {s : List D → M D} {dvs : List V} {kws : List (Str × V)}
theorem spD_len {vs : List V} {H : Hp} {Q : VK} {E : XK} (h : SpD T fr n s vs H Q E) : vs.length = n := by
  obtain ⟨W, ds, R, h1, h2, _⟩ := h
  rw [h1.len, h2]
theorem sees_start {W : Wo} {H : Hp} {vs : List V} {ds : List D} (h : Iss T W H vs ds) : Sees T W (L2.start N vs) H (startD N ds) := by
  have hl := h.len
  refine ⟨by unfold L2.start startD; simp [hl], fun i d e => ?_⟩
  unfold startD at e
  unfold L2.start
  by_cases hi : i < ds.length
  · rw [List.getElem?_append_left (by simpa using hi), List.getElem?_map] at e
    rw [List.getElem?_append_left (by simpa [hl] using hi), List.getElem?_map]
    cases e2 : ds[i]? with
    | none => rw [e2] at e; cases e
    | some z =>
      rw [e2] at e
      cases e
      obtain ⟨v, h1, h2⟩ := h.get e2
      exact ⟨v, by rw [h1]; rfl, h2⟩
  · rw [List.getElem?_append_right (by simpa using hi)] at e
    rw [List.getElem?_replicate] at e
    split at e <;> cases e
/-- the body of a def -/
theorem fn_D (F : FunD K x qual (defArgs st) (defBody st) (defScope st) dvs kws f fd) (S : FnScope N ps (defScope st)) (hn : ps.length = n)
    (body : ∀ (cdv : Value) (A' : Around) (outer : List Env) (s0 : Shared) (H : Hp) (E : XK) (W : Wo) (vs : List V) (ds : List D) (R : D → Prop) (Q : VK), Room k (A'.deeper (envOfC qual (defScope st) s0.heap.objs.size f cdv)) → Now T W W H (L2.start N vs) H (startD N ds) → s ds R →
      (∀ y u H', R y → Up W.toWld H H' → W.I H' → Is T W H' u y → (fr = true → IsD T (fun a => W.M a ∨ ∃ o, H a = some o) W.P H' u y) → Q u H') →
      Wss (cxOf CX0 P w K mg base N qual (defScope st) f cdv A' outer s0 H E).nox (defBody st) { nx := fun _ H' => Q .non H', rt := Q } (L2.start N vs) H) :
    FnOk P w K mg base CX0 (k + 1) f fd ps (SpD T fr n s) :=
  F.ok S (fun vs H Q E h => (spD_len h).trans hn.symm) fun cdv A' outer s0 H vs Q E hr ⟨W, ds, R, h1, h2, hI, hm, q⟩ => by
    obtain ⟨t, p, z⟩ := body cdv A' outer s0 H E W vs ds R Q hr ⟨Up.refl _, fun _ _ m _ => m, hI, sees_start h1⟩ hm q
    refine ⟨t, ?_, z⟩
    exact PSs.nox p
/-- .. of a def that shows texts of lists -/
theorem fn_DG (F : Fun K x qual st f fd) (S : FnScope N ps (defScope st)) (hn : ps.length = n)
    (body : ∀ (cdv : Value) (A' : Around) (outer : List Env) (s0 : Shared) (H : Hp) (W : Wo) (vs : List V) (ds : List D) (R : D → Prop) (Q : VK), A'.guards = some [] → Room k (A'.deeper (envOfC qual (defScope st) s0.heap.objs.size f cdv)) → Now T W W H (L2.start N vs) H (startD N ds) → s ds R →
      (∀ y u H', R y → Up W.toWld H H' → W.I H' → Is T W H' u y → (fr = true → IsD T (fun a => W.M a ∨ ∃ o, H a = some o) W.P H' u y) → Q u H') →
      Wss (cxOf CX0 P w K mg base N qual (defScope st) f cdv A' outer s0 H E0).nox (defBody st) { nx := fun _ H' => Q .non H', rt := Q } (L2.start N vs) H) :
    FnG P w K mg base (k + 1) f fd ps (SpD T fr n s) :=
  fnG_of F S (fun vs H Q E h => (spD_len h).trans hn.symm) fun cdv A' outer s0 H vs Q hG hr ⟨W, ds, R, h1, h2, hI, hm, q⟩ => body cdv A' outer s0 H W vs ds R Q hG hr ⟨Up.refl _, fun _ _ m _ => m, hI, sees_start h1⟩ hm q
end
/-- a def of the module; one that shows lists; .. called by names too: n0 by place, the names ks, then by π in the sequence of the parameters -/
structure DefD (T : Ct) (P : Program) (w : World) (K : PySem.W.Frag) (mg : Str → Option Value) (base : Heap) (k : Nat) (nm : Str) (fr : Bool) (n : Nat) (s : List D → M D) : Prop where
  ex : ∃ f fd ps, FnOk P w K mg base CX0 k f fd ps (SpD T fr n s) ∧ mg nm = some (.ref f) ∧ PySem.W.keepIn K (.ref f) = true ∧ Binds K fd ps []
  len : ∀ ds R, s ds R → ds.length = n
structure DefDG (T : Ct) (P : Program) (w : World) (K : PySem.W.Frag) (mg : Str → Option Value) (base : Heap) (k : Nat) (nm : Str) (fr : Bool) (n : Nat) (s : List D → M D) : Prop where
  ex : ∃ f fd ps, FnG P w K mg base k f fd ps (SpD T fr n s) ∧ mg nm = some (.ref f) ∧ PySem.W.keepIn K (.ref f) = true ∧ Binds K fd ps []
  len : ∀ ds R, s ds R → ds.length = n
def arr {α : Type} (π : List Nat) (l : List α) : List α := π.filterMap (l[·]?)
structure DefK (T : Ct) (P : Program) (w : World) (K : PySem.W.Frag) (mg : Str → Option Value) (base : Heap) (k : Nat) (nm : Str) (fr : Bool) (n0 : Nat) (ks : List Str) (π : List Nat) (n : Nat) (s : List D → M D) : Prop where
  ex : ∃ f fd ps, FnOk P w K mg base CX0 k f fd ps (SpD T fr n s) ∧ mg nm = some (.ref f) ∧ PySem.W.keepIn K (.ref f) = true ∧ KwF K fd ps n0 ks (fun a b => arr π (a ++ b))
  len : ∀ ds R, s ds R → ds.length = n
section
variable {T : Ct} {N Pt : Addr → Prop} {H : Hp}
theorem IsDs.arr {vs : List V} {ds : List D} (h : IsDs T N Pt H vs ds) : ∀ π : List Nat, IsDs T N Pt H (Uv.arr π vs) (Uv.arr π ds)
  | [] => .nil
  | i :: π => by
    unfold Uv.arr
    cases e : ds[i]? with
    | none =>
      have e2 : vs[i]? = none := List.getElem?_eq_none_iff.mpr (by rw [h.len]; exact List.getElem?_eq_none_iff.mp e)
      rw [List.filterMap_cons_none e, List.filterMap_cons_none e2]
      exact IsDs.arr h π
    | some d =>
      obtain ⟨v, e2, hv⟩ := h.get e
      rw [List.filterMap_cons_some e, List.filterMap_cons_some e2]
      exact .cons hv (IsDs.arr h π)
end
theorem Vals.arr {vs : List V} {us : List Value} (r : Vals vs us) : ∀ π : List Nat, Vals (Uv.arr π vs) (Uv.arr π us)
  | [] => .nil
  | i :: π => by
    unfold Uv.arr
    cases e : vs[i]? with
    | none =>
      have e2 : us[i]? = none := r.none_of e
      rw [List.filterMap_cons_none e, List.filterMap_cons_none e2]
      exact Vals.arr r π
    | some d =>
      obtain ⟨v, e2, hv⟩ := r.get e
      rw [List.filterMap_cons_some e, List.filterMap_cons_some e2]
      exact .cons hv (Vals.arr r π)
section
variable {T : Ct} {X : Cx} {W W0 : Wo} {σ : L2.St} {H H0 : Hp} {pos p kpos apos : Pos} {e o : Expr} {es : List Expr} {m mo : M D} {ml : M (List D)} {ρ : List (Option D)} {nm : Str} {fr : Bool} {n n0 k : Nat} {s : List D → M D} {ks : List Str} {π : List Nat} {kws : List Keyword}
theorem call_ev {ta : TA} {R : D → Prop} {Q : VK} {H1 : Hp} (ha : Lw T X W es σ H ml) (hm : opN s ml R) (len : ∀ ds R, s ds R → ds.length = n) (u : Up W.toWld H H1) (hI : W.I H1) (q : ∀ v H2 d, Up W.toWld H1 H2 → W.I H2 → Is T W H2 v d → R d → Q v H2) :
    taAny X es σ H1 fun vs H2 => SpD T fr n s vs H2 Q E0 := ha.go hm u hI fun vs H2 ds u2 i2 hx px => ⟨W, ds, R, hx, len ds R px, i2, px, fun y w H3 hy u3 i3 h3 _ => q w H3 y (u2.trans u3) i3 h3 hy⟩
theorem dw_call (B : DefD T X.prog X.w X.K X.mg X.base k nm fr n s) (hr : Room k X.A) (ha : Lw T X W (e :: es) σ H ml) (hg : Gl X nm := by rfl) (hdb : (nm == ("__debug__" : Str)) = false := by decide)
    (he : starEach (e :: es) X.env = (false, eval e X.env) :: starEach es X.env := by rfl) (hpl : (backTo pos (starEach es X.env)).any (·.1) = false := by rfl) : Dw T X W (.Call (.Name nm p) (e :: es) [] pos) σ H (opN s ml) := by
  obtain ⟨f, fd, ps, F, hm, hk, hb⟩ := B.ex
  refine .of (pe_call (E := E0) F hr hg hm hk hb .nil pass0 pa_any hdb he hpl) fun R hR H1 u hI Q q => ?_
  have h := call_ev (ta := taAny X (e :: es)) (fr := fr) ha hR B.len u hI q
  refine (show _ from ?_)
  obtain ⟨t, pt, z⟩ := h
  refine ⟨t, pt, ?_⟩
  have e : (fun vs H2 => SpD T fr n s (vs ++ []) H2 Q E0) = fun vs H2 => SpD T fr n s vs H2 Q E0 := by
    funext vs H2
    rw [List.append_nil]
  rw [e]
  exact z
theorem dw_callG (B : DefDG T X.prog X.w X.K X.mg X.base k nm fr n s) (hG : X.A.guards = some []) (hr : Room k X.A) (ha : Lw T X W (e :: es) σ H ml) (hg : Gl X nm := by rfl) (hdb : (nm == ("__debug__" : Str)) = false := by decide)
    (he : starEach (e :: es) X.env = (false, eval e X.env) :: starEach es X.env := by rfl) (hpl : (backTo pos (starEach es X.env)).any (·.1) = false := by rfl) : Dw T X W (.Call (.Name nm p) (e :: es) [] pos) σ H (opN s ml) := by
  obtain ⟨f, fd, ps, F, hm, hk, hb⟩ := B.ex
  have pe : PE X (.Call (.Name nm p) (e :: es) [] pos) (fun σ H Q => taAny X (e :: es) σ H fun vs H1 => SpD T fr n s vs H1 Q E0) := by
    refine ⟨fun pins s0 σ H Q I h => wpAny_Call_Name_kw (ld_glob I hg hm ?_ hdb)⟩
    exact PySem.W.callWith_K (h₀ := X.base) I.ok.mod.kin hk (thn (pa_any.run pos pins s0 σ H _ I h) fun us s1 ⟨vs, H1, I1, rv, q⟩ => ⟨I1.kIn, run_G F hG hr hb I1 rv q⟩) he hpl
  exact .of pe fun R hR H1 u hI Q q => call_ev (ta := taAny X (e :: es)) ha hR B.len u hI q
/-! ### arguments by name -/
def Kw (T : Ct) (X : Cx) (W : Wo) (kws : List Keyword) (σ : L2.St) (H : Hp) (m : M (List D)) : Prop := ∀ R, m R → ∃ ta, PK X kws ta ∧ EvL T W ta σ H fun ds => ds.length = kws.length ∧ R ds
def tkAny (X : Cx) (kws : List Keyword) : TA := fun σ H Q => ∃ t, PK X kws t ∧ t σ H Q
theorem pk_any : PK X kws (tkAny X kws) := ⟨fun pos pins s σ H Q I ⟨t, p, q⟩ => p.run pos pins s σ H Q I q⟩
theorem Kw.go {m : M (List D)} {R : List D → Prop} {H1 : Hp} (h : Kw T X W kws σ H m) (hm : m R) (u : Up W.toWld H H1) (hI : W.I H1) {Q : List V → Hp → Prop} (q : ∀ vs H2 ds, Up W.toWld H1 H2 → W.I H2 → Iss T W H2 vs ds → ds.length = kws.length → R ds → Q vs H2) : tkAny X kws σ H1 Q := by
  obtain ⟨t, p, ev⟩ := h R hm
  exact ⟨t, p, ev H1 u hI Q fun vs H2 ds u2 i2 hs hr => q vs H2 ds u2 i2 hs hr.1 hr.2⟩
theorem k_nil : Kw T X W [] σ H lnil := fun R hm => ⟨_, pk_nil, fun H1 _ hI Q q => q [] H1 [] (Up.refl _) hI .nil ⟨rfl, hm⟩⟩
theorem k_cons {kn : Option Str} (h : Dw T X W e σ H m) (hr : Kw T X W kws σ H ml) : Kw T X W (⟨kn, e, kpos⟩ :: kws) σ H (lcons m ml) := fun R hm =>
  ⟨_, pk_cons pe_any pk_any, fun H1 u hI Q q => h.go hm u hI fun v H2 x u2 i2 hx px => hr.go px (u.trans u2) i2 fun vs H3 xs u3 i3 hxs hl pxs => q (v :: vs) H3 (x :: xs) (u2.trans u3) i3 (.cons (hx.up u3) hxs) ⟨congrArg Nat.succ hl, pxs⟩⟩
theorem dw_callK {kw : Keyword} (B : DefK T X.prog X.w X.K X.mg X.base k nm fr 0 ks π n s) (hr : Room k X.A) (hkw : Kw T X W (kw :: kws) σ H ml) (hkl : (kw :: kws).length = ks.length := by rfl)
    (hg : Gl X nm := by rfl) (hdb : (nm == ("__debug__" : Str)) = false := by decide) (hall : (backToKw pos (keywordEach (kw :: kws) X.env)).all (·.1.isSome) = true := by rfl) (hks : (backToKw pos (keywordEach (kw :: kws) X.env)).filterMap (·.1) = ks := by rfl)
    (hpl : ((backTo pos (starEach [] X.env)).any (·.1) || (backToKw pos (keywordEach (kw :: kws) X.env)).any (·.1.isNone)) = false := by rfl) : Dw T X W (.Call (.Name nm p) [] (kw :: kws) pos) σ H (opN (fun ds => s (arr π ds)) ml) := by
  obtain ⟨f, fd, ps, F, hm, hk, hb⟩ := B.ex
  have pe : PE X (.Call (.Name nm p) [] (kw :: kws) pos) (fun σ H Q => tkAny X (kw :: kws) σ H fun zs H2 => zs.length = ks.length ∧ SpD T fr n s (arr π ([] ++ zs)) H2 Q E0) := by
    refine ⟨fun pins s0 σ H Q I h => ?_⟩
    refine wpAny_Call_Name_kw (ld_glob I hg hm ?_ hdb)
    refine PySem.W.callWith_KW0 (h₀ := X.base) I.ok.mod.kin hk hall (thn (pk_any.run pos pins s0 σ H _ I h) fun ws s2 ⟨zs, H2, I2, rz, l2, q2⟩ => ⟨I2.kIn, ?_⟩) hpl
    rw [hks]
    exact wpAny_call (run_kw F hr hb I2 .nil rz rfl l2 q2)
  exact .of pe fun R hR H1 u hI Q q => hkw.go hR u hI fun vs H2 ds u2 i2 hx hl px => ⟨(hx.len.trans hl).trans hkl, W, arr π ds, R, by rw [List.nil_append]; exact hx.arr π, B.len _ R px, i2, px, fun y w H3 hy u3 i3 h3 _ => q w H3 y (u2.trans u3) i3 h3 hy⟩
end
end Uv
set_option Elab.async false
set_option linter.all false
set_option maxRecDepth 100000
set_option maxHeartbeats 4000000
namespace Uv
open PySem L2 Inn PySem.Spec PyProof.Rows
/-! ### the program's classes -/
/-- types by name -/
inductive Ty where
  | int | bool | str | list | tuple | dict | c (n : Nat)
  deriving DecidableEq
def Ty.nm : Ty → String
  | .int => "int" | .bool => "bool" | .str => "str" | .list => "list" | .tuple => "tuple" | .dict => "dict" | .c _ => ""
def isT : Ty → D → Bool
  | .int, .int _ => true
  | .int, .bl _ => true
  | .bool, .bl _ => true
  | .str, .str _ => true
  | .list, .lst _ => true
  | .tuple, .tup _ => true
  | .tuple, .knw _ => true
  | .dict, .dct _ _ => true
  | .c n, .ins m _ => n == m
  | _, _ => false
def Ty.val (T : Ct) : Ty → Value
  | .c n => .ref (T.at_ n)
  | t => .type t.nm
def Ty.v (T : Ct) : Ty → V
  | .c n => .ref (T.at_ n)
  | t => .ty t.nm
structure ClsD (K : PySem.W.Frag) (T : Ct) (c : Nat) : Prop where
  cl : Cls K (T.at_ c)
  no : ∀ f ∈ T.fs c, NoAttr K (T.at_ c) f
  nd : (T.fs c).Nodup
  few : (T.fs c).length < 1000
  ha : PySem.W.findIn K (.ref (T.at_ c)) "__class__" = some (some (.builtin "object.__class__"))
  hn : PySem.W.specialIn K (.builtin "object.__class__") "__get__" = some (some (.builtin "getset_descriptor.__get__"))
  htk : PySem.W.takesIn K (.builtin "object.__class__") = some true
  hm : PySem.W.mroIn K (T.at_ c) (.type "object") = some true
  kb : ∀ t ∈ ["int", "bool", "str", "list", "tuple", "dict"], PySem.W.kitOne K (.ref (T.at_ c)) (.type t) = some false
  bk : ∀ t ∈ ["int", "bool", "NoneType", "str", "list", "tuple", "dict"], PySem.W.kitOne K (.type t) (.ref (T.at_ c)) = some false
  kc : ∀ c', c' < T.n → PySem.W.kitOne K (.ref (T.at_ c)) (.ref (T.at_ c')) = some (c' == c)
def AllC (K : PySem.W.Frag) (T : Ct) : Prop := ∀ c, c < T.n → ClsD K T c
/-- a value whose type is told -/
def plainD : D → Bool
  | .pot _ => false
  | .cls _ => false
  | _ => true
def tyv (T : Ct) : D → Value
  | .int _ => .type "int" | .bl _ => .type "bool" | .non => .type "NoneType" | .str _ => .type "str" | .lst _ => .type "list" | .tup _ => .type "tuple" | .knw _ => .type "tuple" | .dct _ _ => .type "dict" | .ins c _ => .ref (T.at_ c)
  | _ => .none
theorem lookup_zip {fs : List Str} (nd : fs.Nodup) : ∀ {us : List V} {i : Nat} {f : Str} {v : V}, fs[i]? = some f → us[i]? = some v → (fs.zip us).lookup f = some v := by
  induction fs with
  | nil => intro us i f v h; simp at h
  | cons g gs ih =>
    intro us i f v h hv
    cases us with
    | nil => simp at hv
    | cons u us =>
      rw [List.zip_cons_cons, List.lookup_cons]
      cases i with
      | zero =>
        simp at h hv
        subst h; subst hv
        simp
      | succ i =>
        have h' : gs[i]? = some f := by simpa using h
        have hv' : us[i]? = some v := by simpa using hv
        have hne : ¬ f = g := fun z => (List.nodup_cons.mp nd).1 (z ▸ List.mem_of_getElem? h')
        rw [show (f == g) = false from beq_eq_false_iff_ne.mpr hne]
        exact ih (List.nodup_cons.mp nd).2 h' hv'
def fldI (c i : Nat) : D → M D
  | .ins c' l => fun R => c' = c ∧ ∃ x, l[i]? = some x ∧ R x
  | _ => fail
def isiG (ts : List Ty) (d : D) : M D := asks (plainD d = true) (rt (.bl (ts.any fun t => isT t d)))
section
variable {T : Ct} {X : Cx} {W W0 : Wo} {σ : L2.St} {H H0 : Hp} {pos p p1 p2 pt apos : Pos} {e e2 o : Expr} {es : List Expr} {m mo : M D} {ml : M (List D)} {ρ : List (Option D)} {nm f : Str} {fr : Bool} {c i n k : Nat} {s : List D → M D}
theorem dw_fld (c i : Nat) (hc : c < T.n) (C : AllC X.K T) (hf : (T.fs c)[i]? = some f) (ho : Dw T X W o σ H m) (hb : attributeBase o f X.env (eval o X.env) = eval o X.env := by rfl) : Dw T X W (.Attribute o f pos) σ H (op1 (fldI c i) m) := by
  refine .of (pe_fld pe_any hb) fun R hm H1 u hI Q q => ho.go hm u hI fun v H2 d u2 i2 hd pd => ?_
  unfold fldI at pd
  split at pd
  · obtain ⟨e, x, hx, hr⟩ := pd
    cases hd with | ins hc' n ee hl hs =>
    subst e
    obtain ⟨v, hv, hvx⟩ := hs.get hx
    exact ⟨_, _, _, _, _, rfl, ee, (C _ hc).cl, (C _ hc).no f (List.mem_of_getElem? hf), lookup_zip (C _ hc).nd hf hv, q v H2 x u2 i2 hvx hr⟩
  · exact pd.elim
/-! ### isinstance -/
theorem ty_D (C : AllC X.K T) {v : V} {d : D} (h : Is T W H v d) (hp : plainD d = true) (hK : T.K = X.K) : TyX X.K H v (tyv T d) := by
  cases h with
  | int => exact .base (.int _)
  | bl => exact .base (.bl _)
  | str => exact .base (.str _)
  | non => exact .base .non
  | lst n e h => exact .base (.lst e)
  | tup n e h => exact .base (.tup e)
  | dct n e hk h => exact .base (.dK e)
  | ins hc n e hl h =>
    have c := C _ hc
    exact .base (.ins e c.cl c.ha c.hn c.htk c.hm)
  | pot => cases hp
  | cls => cases hp
  | knw h =>
    obtain ⟨o, its, n, hk, hc, _⟩ := h
    exact .kTuple (hK ▸ hk) hc
theorem kit_D (C : AllC X.K T) {d : D} (hd : ∀ c l, d = .ins c l → c < T.n) (hp : plainD d = true) (t : Ty) (ht : ∀ c, t = .c c → c < T.n) : PySem.W.kitOne X.K (tyv T d) (t.val T) = some (isT t d) := by
  cases d with
  | pot a => cases hp
  | cls v => cases hp
  | ins c l =>
    have h := C c (hd c l rfl)
    cases t with
    | c c' => exact (h.kc c' (ht c' rfl)).trans rfl
    | int => exact h.kb _ (by decide)
    | bool => exact h.kb _ (by decide)
    | str => exact h.kb _ (by decide)
    | list => exact h.kb _ (by decide)
    | tuple => exact h.kb _ (by decide)
    | dict => exact h.kb _ (by decide)
  | _ =>
    cases t with
    | c c' => exact (C c' (ht c' rfl)).bk _ (by decide)
    | _ => first
      | exact (show PySem.W.kitOne X.K (.type _) (.type _) = some true from kit_ty (by decide +kernel))
      | exact (show PySem.W.kitOne X.K (.type _) (.type _) = some false from kit_ty (by decide +kernel))
theorem ins_lt {v : V} {d : D} (h : Is T W H v d) : ∀ c l, d = .ins c l → c < T.n := by
  rintro c l rfl
  cases h with
  | ins hc _ _ _ _ => exact hc
/-- an expression that is a class -/
structure TyE (T : Ct) (X : Cx) (e : Expr) (t : Ty) : Prop where
  pe : PE X e (tC (t.v T))
  cv : ClsV (t.v T) (t.val T)
  lt : ∀ c, t = .c c → c < T.n
theorem ty_b (t : Ty) (hm : X.mg nm = none) (hv : bootBuiltins nm = some (.type t.nm)) (hc : ∀ c, t ≠ .c c) (hg : Gl X nm := by rfl) (hn : nm ≠ "__name__" := by decide) (hd : (nm == ("__debug__" : Str)) = false := by decide) : TyE T X (.Name nm p) t := by
  cases t with
  | c c => exact absurd rfl (hc c)
  | _ => exact ⟨pe_bltn hg hm hv rfl hn hd, .ty _, fun _ h => nomatch h⟩
theorem ty_c (c : Nat) (hc : c < T.n) (hm : X.mg nm = some (.ref (T.at_ c))) (hg : Gl X nm := by rfl) (hd : (nm == ("__debug__" : Str)) = false := by decide) : TyE T X (.Name nm p) (.c c) :=
  ⟨pe_glob (v := .ref (T.at_ c)) hg hm rfl hd, .own _, fun _ h => by cases h; exact hc⟩
theorem dw_isi {t : Ty} (C : AllC X.K T) (h : Dw T X W e σ H m) (ht : TyE T X e2 t) (hm : X.mg "isinstance" = none) (hK : T.K = X.K := by rfl) (hg : Gl X "isinstance" := by rfl) (hs : starEach (e :: [e2]) X.env = (false, eval e X.env) :: starEach [e2] X.env := by rfl) (hs2 : starEach (e2 :: []) X.env = (false, eval e2 X.env) :: starEach [] X.env := by rfl) (hpl : (backTo pos (starEach [e2] X.env)).any (·.1) = false := by rfl) :
    Dw T X W (.Call (.Name "isinstance" p) [e, e2] [] pos) σ H (op1 (isiG [t]) m) := by
  refine .of (pe_callB call_isi hg hm (by decide +kernel) (pa_cons pe_any (pa_cons ht.pe pa_nil hs2) hs) (he := hs) (hpl := hpl)) fun R hR H1 u1 hI Q q => h.go hR u1 hI fun v H2 d u2 i2 hd pd => ?_
  have z : R (.bl (isT t d)) := by
    have w := pd.2
    unfold rt at w
    rw [List.any_cons, List.any_nil, Bool.or_false] at w
    exact w
  exact ⟨v, _, _, _, _, rfl, ht.cv, ty_D C hd pd.1 hK, kit_D C (ins_lt hd) pd.1 t ht.lt, q _ H2 _ u2 i2 .bl z⟩
theorem kit_any (C : AllC X.K T) {d : D} (hd : ∀ c l, d = .ins c l → c < T.n) (hp : plainD d = true) : ∀ {ts : List Ty}, (∀ t ∈ ts, ∀ c, t = .c c → c < T.n) → PySem.W.kitAny X.K (tyv T d) (ts.map (Ty.val T)) = some (ts.any fun t => isT t d)
  | [], _ => rfl
  | t :: ts, h => by
    have h1 := kit_D C hd hp t (h t List.mem_cons_self)
    have h2 := kit_any C hd hp (ts := ts) fun t ht => h t (List.mem_cons_of_mem _ ht)
    rw [List.map_cons, List.any_cons]
    cases e : isT t d with
    | true =>
      rw [e] at h1
      exact kitAny_cons h1 (fun h => nomatch h) fun _ => rfl
    | false =>
      rw [e] at h1
      exact kitAny_cons h1 (fun _ => h2) fun h => nomatch h
theorem dw_isi2 {e3 : Expr} {t t2 : Ty} {kt : Nat} (C : AllC X.K T) (h : Dw T X W e σ H m) (ht : TyE T X e2 t) (ht2 : TyE T X e3 t2) (hm : X.mg "isinstance" = none) (hK : T.K = X.K := by rfl) (hg : Gl X "isinstance" := by rfl)
    (hs : starEach (e :: [.Tuple [e2, e3] kt pt]) X.env = (false, eval e X.env) :: starEach [.Tuple [e2, e3] kt pt] X.env := by rfl) (hs2 : starEach (.Tuple [e2, e3] kt pt :: []) X.env = (false, eval (.Tuple [e2, e3] kt pt) X.env) :: starEach [] X.env := by rfl) (hpl : (backTo pos (starEach [.Tuple [e2, e3] kt pt] X.env)).any (·.1) = false := by rfl)
    (hs3 : starEach (e2 :: [e3]) X.env = (false, eval e2 X.env) :: starEach [e3] X.env := by rfl) (hs4 : starEach (e3 :: []) X.env = (false, eval e3 X.env) :: starEach [] X.env := by rfl) :
    Dw T X W (.Call (.Name "isinstance" p) [e, .Tuple [e2, e3] kt pt] [] pos) σ H (op1 (isiG [t, t2]) m) := by
  refine .of (pe_callB call_isiT hg hm (by decide +kernel) (pa_cons pe_any (pa_cons (pe_tup (pa_cons ht.pe (pa_cons ht2.pe pa_nil hs4) hs3)) pa_nil hs2) hs) (he := hs) (hpl := hpl)) fun R hR H1 u1 hI Q q => h.go hR u1 hI fun v H2 d u2 i2 hd pd => ⟨by show 2 ≤ sizeLine; decide, fun tp hp => ?_⟩
  have lt : ∀ z ∈ [t, t2], ∀ c, z = .c c → c < T.n := by
    intro z hz
    rcases List.mem_cons.mp hz with r | hz
    · subst r; exact ht.lt
    · rw [List.mem_singleton.mp hz]; exact ht2.lt
  have un : Up W.toWld H2 (upd H2 tp (.tup [t.v T, t2.v T])) := Up.new hp
  exact ⟨v, tp, _, _, [t.val T, t2.val T], _, rfl, upd_same, .cons ht.cv (.cons ht2.cv .nil), ty_D C (hd.up un) pd.1 hK, kit_any C (ins_lt hd) pd.1 lt, q _ _ _ (u2.trans un) (I_new i2 hp) .bl pd.2⟩
/-! ### methods, properties -/
structure MethD (T : Ct) (P : Program) (w : World) (K : PySem.W.Frag) (mg : Str → Option Value) (base : Heap) (k c : Nat) (nm : Str) (fr : Bool) (n : Nat) (s : List D → M D) : Prop where
  ex : ∃ f fd ps, FnOk P w K mg base CX0 k f fd ps (SpD T fr n s) ∧ Meth K (T.at_ c) nm f ∧ Binds K fd ps []
  len : ∀ ds R, s ds R → ds.length = n
structure PropD (T : Ct) (P : Program) (w : World) (K : PySem.W.Frag) (mg : Str → Option Value) (base : Heap) (k c : Nat) (nm : Str) (fr : Bool) (s : List D → M D) : Prop where
  ex : ∃ p g fd ps, FnOk P w K mg base CX0 k g fd ps (SpD T fr 1 s) ∧ PropOf K (T.at_ c) nm p g ∧ Binds K fd ps []
def methM (c : Nat) (s : List D → M D) (mo : M D) (ml : M (List D)) : M D := fun R => mo fun d => (∃ l, d = .ins c l) ∧ ml fun ds => s (d :: ds) R
def propM (c : Nat) (s : List D → M D) (d : D) : M D := fun R => (∃ l, d = .ins c l) ∧ s [d] R
theorem dw_prop (B : PropD T X.prog X.w X.K X.mg X.base k c nm fr s) (C : AllC X.K T) (hr : Room (k + 1) X.A) (h : Dw T X W o σ H mo) (hb : attributeBase o nm X.env (eval o X.env) = eval o X.env := by rfl) : Dw T X W (.Attribute o nm pos) σ H (op1 (propM c s) mo) := by
  obtain ⟨p, g, fd, ps, F, hp', hbi⟩ := B.ex
  by_cases hc : c < T.n
  · refine .of (pe_prop (E := E0) pe_any (C c hc).cl hp' F hr hbi .nil pass0 hb) fun R hR H1 u hI Q q => h.go hR u hI fun v H2 d u2 i2 hd pd => ?_
    obtain ⟨⟨l, rfl⟩, pd⟩ := pd
    have hd0 := hd
    cases hd with | ins hc' n ee hl hs =>
    exact ⟨_, _, _, rfl, ee, W, _, R, .cons hd0 .nil, rfl, i2, pd, fun y w H3 hy u3 i3 h3 _ => q w H3 y (u2.trans u3) i3 h3 hy⟩
  · refine .of pe_any fun R hR H1 u hI Q q => ?_
    exact ⟨_, pe_fld (f := nm) (pos := pos) (pe_any (e := o)) hb, h.go hR u hI fun v H2 d u2 i2 hd pd => by
      obtain ⟨⟨l, rfl⟩, _⟩ := pd
      cases hd with | ins hc' n ee hl hs => exact absurd hc' hc⟩
end
end Uv
set_option Elab.async false
set_option linter.all false
set_option maxRecDepth 100000
set_option maxHeartbeats 4000000
namespace Uv
open PySem L2 Inn PySem.Spec PyProof.Rows
/-! ### instances are made -/
/-- what __init__ asks; what fields come of it -/
def SpI (T : Ct) (c n : Nat) (s : List D → M (List D)) : Sp := fun vs H Q _ => ∃ (W : Wo) (H1 : Hp) (p dx : Addr) (us : List V) (ds : List D) (R : List D → Prop), vs = .ref p :: us ∧ H1 p = none ∧ H1 dx = none ∧ dx ≠ p ∧ H = upd (upd H1 dx (.own p)) p (.ins (T.at_ c) dx []) ∧ W.I H1 ∧
  Iss T W H1 us ds ∧ ds.length = n ∧ s ds R ∧ ∀ fl us' H', R fl → Up W.toWld H1 H' → W.I H' → H' p = some (.ins (T.at_ c) dx ((T.fs c).zip us')) → us'.length = (T.fs c).length → Iss T W H' us' fl → Q .non H'
structure MkD (T : Ct) (P : Program) (w : World) (K : PySem.W.Frag) (mg : Str → Option Value) (base : Heap) (k c : Nat) (nm : Str) (n : Nat) (s : List D → M (List D)) (dds : List D) : Prop where
  ex : ∃ f fd ps ds dvs, FnOk P w K mg base CX0 k f fd ps (SpI T c n s) ∧ Mk K (T.at_ c) f ∧ mg nm = some (.ref (T.at_ c)) ∧ Binds K fd ps ds ∧ Vals dvs ds ∧ ∀ (W : Wo) (H : Hp), Iss T W H dvs dds
  len : ∀ ds R, s ds R → ds.length = n
  lt : c < T.n
/-- .. called by names: all of ks, in the sequence π -/
structure MkK (T : Ct) (P : Program) (w : World) (K : PySem.W.Frag) (mg : Str → Option Value) (base : Heap) (k c : Nat) (nm : Str) (ks : List Str) (π : List Nat) (n : Nat) (s : List D → M (List D)) : Prop where
  ex : ∃ f fd ps g, FnOk P w K mg base CX0 k f fd ps (SpI T c n s) ∧ Mk K (T.at_ c) f ∧ mg nm = some (.ref (T.at_ c)) ∧ KBn K fd ps 1 ks g (fun vs zs => vs ++ arr π zs)
  len : ∀ ds R, s ds R → ds.length = n
  lt : c < T.n
def mkM (c : Nat) (s : List D → M (List D)) (dds : List D) (ds : List D) : M D := fun R => s (ds ++ dds) fun fl => R (.ins c fl)
section
variable {T : Ct} {X : Cx} {W W0 : Wo} {σ : L2.St} {H H0 H1 : Hp} {pos p kpos apos : Pos} {e o : Expr} {es : List Expr} {m mo : M D} {ml : M (List D)} {ρ : List (Option D)} {nm : Str} {fr : Bool} {n c k : Nat} {s : List D → M (List D)} {dds : List D} {ks : List Str} {π : List Nat} {kws : List Keyword}
theorem made_D {x dx : Addr} {us : List V} {ds : List D} {R : D → Prop} {Q : VK} {E : XK} (hI : W.I H1) (nx : H1 x = none) (ndx : H1 dx = none) (ne : dx ≠ x) (hc : c < T.n) (hx : Iss T W H1 us ds) (hl : ds.length = n) (hm : s ds fun fl => R (.ins c fl))
    (q : ∀ v H2 d, Up W.toWld H1 H2 → W.I H2 → Is T W H2 v d → R d → Q v H2) : SpI T c n s (.ref x :: us) (upd (upd H1 dx (.own x)) x (.ins (T.at_ c) dx [])) (fun v H2 => v = .non ∧ Q (.ref x) H2) E :=
  ⟨W, H1, x, dx, us, ds, _, rfl, nx, ndx, ne, rfl, hI, hx, hl, hm, fun fl us' H' hr u i e hl' hs => ⟨rfl, q _ H' _ u i (.ins hc (not_M hI nx) e hl' hs) hr⟩⟩
theorem dw_make (B : MkD T X.prog X.w X.K X.mg X.base k c nm n s dds) (hr : Room (k + 1) X.A) (ha : Lw T X W (e :: es) σ H ml) (hg : Gl X nm := by rfl) (hdb : (nm == ("__debug__" : Str)) = false := by decide)
    (he : starEach (e :: es) X.env = (false, eval e X.env) :: starEach es X.env := by rfl) (hpl : (backTo pos (starEach es X.env)).any (·.1) = false := by rfl) : Dw T X W (.Call (.Name nm p) (e :: es) [] pos) σ H (opN (mkM c s dds) ml) := by
  obtain ⟨f, fd, ps, dsv, dvs, F, M, hm, hbi, hdv, hd⟩ := B.ex
  refine .of (pe_make (E := E0) M F hr hg hm hbi hdv pass0 pa_any hdb he hpl) fun R hR H1 u hI Q q => ha.go hR u hI fun vs H2 ds u2 i2 hx px => fun x dx nx ndx ne => ?_
  exact made_D i2 nx ndx ne B.lt (hx.app (hd W H2)) (B.len _ _ px) px fun v H3 d u3 i3 h3 hd' => q v H3 d (u2.trans u3) i3 h3 hd'
end
/-! ### the body of __init__ -/
theorem notin_take {f : Str} : ∀ {fs : List Str} {i : Nat}, fs.Nodup → fs[i]? = some f → f ∉ fs.take i
  | [], _, _, h => by simp at h
  | g :: gs, 0, _, _ => by simp
  | g :: gs, i + 1, nd, h => by
    have h' : gs[i]? = some f := by simpa using h
    have h1 := List.nodup_cons.mp nd
    rw [List.take_succ_cons, List.mem_cons]
    rintro (rfl | z)
    · exact h1.1 (List.mem_of_getElem? h')
    · exact notin_take h1.2 h' z
theorem putF_zip {f : Str} {v : V} : ∀ {fs : List Str} {us : List V}, us.length = fs.length → f ∉ fs → putF f v (fs.zip us) = (fs ++ [f]).zip (us ++ [v])
  | [], us, h, _ => by
    cases us with
    | nil => rfl
    | cons _ _ => cases h
  | g :: gs, us, h, hf => by
    cases us with
    | nil => cases h
    | cons u us =>
      have h2 : ¬ f = g ∧ f ∉ gs := by simpa using hf
      rw [List.zip_cons_cons, List.cons_append, List.cons_append, List.zip_cons_cons]
      unfold putF
      first
      | rw [if_neg (fun z => h2.1 z.symm), putF_zip (Nat.succ.inj h) h2.2]
      | rw [if_neg h2.1, putF_zip (Nat.succ.inj h) h2.2]
/-- an instance of c is being made at p: us stand in its first fields -/
structure Bld (T : Ct) (W : Wo) (c : Nat) (p dx : Addr) (H : Hp) (us : List V) (fl : List D) : Prop where
  e : H p = some (.ins (T.at_ c) dx (((T.fs c).take us.length).zip us))
  le : us.length ≤ (T.fs c).length
  nM : ¬ W.M p
  hs : Iss T (Wh W p (.ins (T.at_ c) dx (((T.fs c).take us.length).zip us))) H us fl
abbrev Wi (T : Ct) (W : Wo) (c : Nat) (p dx : Addr) (us : List V) : Wo := Wh W p (.ins (T.at_ c) dx (((T.fs c).take us.length).zip us))
section
variable {T : Ct} {P : Program} {w : World} {K : PySem.W.Frag} {mg : Str → Option Value} {base : Heap} {x qual : Str} {st : Stmt} {f C : Addr} {fd : FuncData} {N ps : List Str} {k n c : Nat} {s : List D → M (List D)} {dvs : List V} {kws : List (Str × V)}
theorem fn_I (F : FunD K x qual (defArgs st) (defBody st) (defScope st) dvs kws f fd) (S : FnScope N ps (defScope st)) (hn : ps.length = n + 1) (hNl : ps.length ≤ N.length)
    (body : ∀ (cdv : Value) (A' : Around) (outer : List Env) (s0 : Shared) (H1 H : Hp) (E : XK) (W : Wo) (p dx : Addr) (us : List V) (ds : List D) (R : List D → Prop) (Q : VK), Room k (A'.deeper (envOfC qual (defScope st) s0.heap.objs.size f cdv)) → (L2.start N (.ref p :: us))[0]? = some (some (.ref p)) →
      Now T W (Wi T W c p dx []) H1 (L2.start N (.ref p :: us)) H ((startD N (.non :: ds)).set 0 none) → Bld T W c p dx H [] [] → s ds R →
      (∀ us' fl H', us'.length = (T.fs c).length → R fl → Up W.toWld H1 H' → (Wi T W c p dx us').I H' → Bld T W c p dx H' us' fl → Q .non H') →
      Wss (cxOf CX0 P w K mg base N qual (defScope st) f cdv A' outer s0 H E).nox (defBody st) { nx := fun _ H' => Q .non H', rt := Q } (L2.start N (.ref p :: us)) H) :
    FnOk P w K mg base CX0 (k + 1) f fd ps (SpI T c n s) :=
  F.ok S (fun vs H Q E h => by
    obtain ⟨W, H1, p, dx, us, ds, R, rfl, _, _, _, _, _, hx, hl, _⟩ := h
    rw [List.length_cons, hx.len, hl, hn]) fun cdv A' outer s0 H vs Q E hr ⟨W, H1, p, dx, us, ds, R, e1, np, ndx, ne, eH, hI, hx, hl, hm, q⟩ => by
    subst e1
    have hu0 : Up W.toWld H1 H := fun a o nM e => by
      rw [eH, upd_ne (ne_of_none e np), upd_ne (ne_of_none e ndx)]
      exact e
    have hp : H p = some (.ins (T.at_ c) dx []) := by rw [eH]; exact upd_same
    have hIH : W.I H := W.st hI fun a m => by
      obtain ⟨o, e⟩ := W.al hI m
      rw [e]
      rw [eH, upd_ne (ne_of_none e np), upd_ne (ne_of_none e ndx)]
      exact e
    have nMp : ¬ W.M p := not_M hI np
    have args : Iss T (Wi T W c p dx []) H us ds := IsDs.conv (fun a o nM e => ⟨fun z => z.elim nM fun z => ne_of_none e np z, hu0 a o nM e⟩) (pot_ne hI np) hx
    have start : Sees T (Wi T W c p dx []) (L2.start N (.ref p :: us)) H ((startD N (.non :: ds)).set 0 none) := by
      have hs : Sees T (Wi T W c p dx []) (L2.start N (.non :: us)) H (startD N (.non :: ds)) := sees_start (.cons .non args)
      refine ⟨by rw [List.length_set, ← hs.1]; unfold L2.start; simp, fun i d e => ?_⟩
      cases i with
      | zero =>
        rw [List.getElem?_set] at e
        simp at e
      | succ i =>
        rw [List.getElem?_set_ne (by omega)] at e
        obtain ⟨v, h1, h2⟩ := hs.2 (i + 1) d e
        exact ⟨v, by unfold L2.start at h1 ⊢; simpa using h1, h2⟩
    obtain ⟨t, pt, z⟩ := body cdv A' outer s0 H1 H E W p dx us ds R Q hr (by unfold L2.start; rfl) ⟨hu0, fun a o nM e z => z.elim nM fun z => ne_of_none e np z, ⟨hIH, by simpa using hp⟩, start⟩ ⟨by simpa using hp, Nat.zero_le _, nMp, .nil⟩ hm fun us' fl H' hl' hr' u' i' b' => by
      have e' : (T.fs c).take us'.length = T.fs c := by rw [hl', List.take_length]
      have ee := b'.e
      rw [e'] at ee
      exact q fl us' H' hr' u' i'.1 ee hl' b'.hs.wk
    exact ⟨t, PSs.nox pt, z⟩
end
section
variable {T : Ct} {X : Cx} {W : Wo} {σ : L2.St} {H H0 : Hp} {pos : Pos} {e : Expr} {m : M D} {ρ : List (Option D)} {c : Nat} {us : List V} {fl : List D} {p dx : Addr} {D' : Ends} {sts : List Stmt} {P : D → Prop} {nm f : Str}
/-- self.f = e, the next field -/
theorem w_fld {p0 pa : Pos} (n : Now T W (Wi T W c p dx us) H0 σ H ρ) (b : Bld T W c p dx H us fl) (hc : c < T.n) (C : AllC X.K T) (hσ : σ[0]? = some (some (.ref p))) (hf : (T.fs c)[us.length]? = some f) (he : Dw T X (Wi T W c p dx us) e σ H m) (hm : m P)
    (k : ∀ d v H1, Now T W (Wi T W c p dx (us ++ [v])) H0 σ H1 ρ → Bld T W c p dx H1 (us ++ [v]) (fl ++ [d]) → P d → Wss X sts D' σ H1)
    (hN : X.N[0]? = some nm := by rfl) (hvis : Vis X.env.scope nm := by first | exact Or.inl rfl | exact Or.inr (Or.inl rfl) | exact Or.inr (Or.inr rfl)) (hd : (nm == ("__debug__" : Str)) = false := by decide) (hcd : (nm == ("__classdict__" : Str)) = false := by decide)
    (hs : swapsWith e (some (.Attribute (.Name nm p0) f pa)) pos.line X.env = pure false := by rfl) : Wss X (.Assign [.Attribute (.Name nm p0) f pa] e pos :: sts) D' σ H := by
  refine ⟨_, pss_cons (ps_fld (pe_var hN hvis hd hcd) pe_any hs) wss_all, he.go hm (Up.refl _) n.inv fun v H1 d u i1 hv pd => ⟨.ref p, hσ, ?_⟩⟩
  have cl := C c hc
  have hlt : us.length < (T.fs c).length := (List.getElem?_eq_some_iff.mp hf).1
  have ep := i1.2
  refine ⟨p, T.at_ c, dx, _, rfl, ep, cl.cl, cl.no f (List.mem_of_getElem? hf), ?_, ?_⟩
  · rw [List.length_zip]
    exact Nat.lt_of_le_of_lt (Nat.min_le_right _ _) (Nat.lt_trans hlt cl.few)
  · have tk : (T.fs c).take (us ++ [v]).length = (T.fs c).take us.length ++ [f] := by
      rw [List.length_append, List.length_singleton, List.take_add_one, hf]
      rfl
    have hz : putF f v (((T.fs c).take us.length).zip us) = ((T.fs c).take (us ++ [v]).length).zip (us ++ [v]) := by
      rw [tk]
      exact putF_zip (by rw [List.length_take, Nat.min_eq_left b.le]) (notin_take cl.nd hf)
    rw [hz]
    have nM := b.nM
    exact k d v _ ⟨fun a o x y => by
      rw [upd_ne (fun z => n.rel a o x y (.inr z))]
      exact u a o (n.rel a o x y) (n.up a o x y), n.rel, ⟨I_mut i1.1 nM, upd_same⟩, (n.see.up u).gw⟩
      ⟨upd_same, by rw [List.length_append]; exact hlt, nM, ((Iss.up u b.hs).gw).app (.cons hv.gw .nil)⟩ pd
end
end Uv
set_option Elab.async false
set_option linter.all false
set_option maxRecDepth 100000
set_option maxHeartbeats 4000000
namespace Uv
open PySem L2 Inn PySem.Spec PyProof.Rows
/-! ### the classes' own operators -/
structure OpB (T : Ct) (P : Program) (w : World) (K : PySem.W.Frag) (mg : Str → Option Value) (base : Heap) (k c : Nat) (op : Operator) (s sr : List D → M D) : Prop where
  ex : ∃ f fr fd fdr ps psr ro fo b b', OpF K (T.at_ c) op f fr ro fo ∧ FnOk P w K mg base CX0 k f fd ps (SpD T b 2 s) ∧ L2.Binds K fd ps [] ∧ FnOk P w K mg base CX0 k fr fdr psr (SpD T b' 2 sr) ∧ L2.Binds K fdr psr []
def ownB (c : Nat) (s sr : List D → M D) : D → D → M D
  | .ins c' l, .int i => fun R => c' = c ∧ s [.ins c' l, .int i] R
  | .ins c' l, .ins c2 l2 => fun R => c' = c ∧ c2 = c ∧ s [.ins c' l, .ins c2 l2] R
  | .int i, .ins c' l => fun R => c' = c ∧ sr [.ins c' l, .int i] R
  | _, _ => fail
section
variable {T : Ct} {X : Cx} {W : Wo} {k c : Nat} {op : Operator} {s sr : List D → M D}
structure NegB (T : Ct) (P : Program) (w : World) (K : PySem.W.Frag) (mg : Str → Option Value) (base : Heap) (k c : Nat) (s : List D → M D) : Prop where
  ex : ∃ f fd ps b, PySem.W.findIn K (.ref (T.at_ c)) "__neg__" = some (some (.ref f)) ∧ PySem.W.isFn K (.ref f) = true ∧ FnOk P w K mg base CX0 k f fd ps (SpD T b 1 s) ∧ L2.Binds K fd ps []
def ownN (c : Nat) (s : List D → M D) : D → M D
  | .ins c' l => fun R => c' = c ∧ s [.ins c' l] R
  | _ => fail
end
end Uv
set_option Elab.async false
set_option linter.all false
set_option maxRecDepth 100000
set_option maxHeartbeats 4000000
namespace PySem.SeqAt
open AutoSeq1 (wpAny_loadPart')
open MeetsSeq MeetsSeq2 MeetsSeq3 SeqRoads2
section
variable {prog : Program} {w : World} {A : Around} {R : Result → Shared → Prop}
/-- at every state of J the two lists stand, of m items each -/
def TwoL (a b : Addr) (m : Nat) (J : Shared → Prop) : Prop := ∀ s, J s → ∃ (xs ys : Array Value) (c c2 : Nat), s.heap.get? a = some { cls := .type "list", data := .seq xs c } ∧ s.heap.get? b = some { cls := .type "list", data := .seq ys c2 } ∧ xs.size = m ∧ ys.size = m
def ItemsL (prog : Program) (w : World) (A : Around) (E : Value → Shared → Prop) (a b : Addr) (m : Nat) (J : Shared → Prop) (I : Nat → Shared → Prop) (F : Shared → Prop) : Prop :=
  ∀ i s (xs ys : Array Value) (c c2 : Nat), J s → I i s → s.heap.get? a = some { cls := .type "list", data := .seq xs c } → s.heap.get? b = some { cls := .type "list", data := .seq ys c2 } →
    ∀ (h1 : i < xs.size) (h2 : i < ys.size), wpAny (model prog w) A (eqBool xs[i] ys[i]) (fun r s' => J s' ∧ (r = true → I (i + 1) s') ∧ (r = false → F s')) E s
/-- code 2: ==, 3: != -/
theorem loopJ {neg : Bool} {cd : Int} (hcd : cd = if neg = true then 3 else 2) {a b : Addr} {m : Nat} {J : Shared → Prop} {I : Nat → Shared → Prop} {F : Shared → Prop} (hJ : TwoL a b m J) (turn : ItemsL prog w A.in1 (fun e s' => R (.error e) s') a b m J I F)
    (fin : ∀ s, J s → I m s → R (.ok (.ret (.bool (!neg)))) s) (bad : ∀ s, J s → F s → R (.ok (.ret (.bool neg))) s) (k : Nat) :
    ∀ i : Nat, m - i = k → i ≤ m → ∀ s, J s → I i s → wpAny (model prog w) A.in1 (Builtin.«list.__eq__.loop» ⟨[.ref a, .ref b, rawInt i, rawInt cd], []⟩)
      (fun fin s' => match fin with | .done f => R (.ok f) s' | .again c' => c'.quiet = true ∧ codeAny (model prog w) A c' R s') (fun e s' => R (.error e) s') s := by
  induction k with
  | zero =>
    intro i hk hi s j h
    obtain ⟨xs, ys, c, c2, ea, eb, n1, n2⟩ := hJ s j
    have last : i = m := by omega
    have done := fin s j (last ▸ h)
    obtain ⟨hp, g, d, tk, os⟩ := s
    have no1 : xs[((i : Nat) : Int).toNat]? = none := by simp; omega
    have no2 : ys[((i : Nat) : Int).toNat]? = none := by simp; omega
    cases neg with
    | false =>
      subst hcd
      simp only [Bool.false_eq_true, if_false]
      wp_walk using wpAny_loadPart' ea, wpAny_loadPart' eb
      rw [no1, no2]
      wp_walk using wpAny_loadPart' ea, wpAny_loadPart' eb
      show R (.ok (.ret (.bool (xs.size == ys.size)))) _
      rw [n1, n2]
      simpa using done
    | true =>
      subst hcd
      simp only [if_true]
      wp_walk using wpAny_loadPart' ea, wpAny_loadPart' eb
      rw [no1, no2]
      wp_walk using wpAny_loadPart' ea, wpAny_loadPart' eb
      show R (.ok (.ret (.bool (xs.size != ys.size)))) _
      rw [n1, n2]
      simpa using done
  | succ k ih =>
    intro i hk hi s j h
    obtain ⟨xs, ys, c, c2, ea, eb, n1, n2⟩ := hJ s j
    have l1 : i < xs.size := by omega
    have l2 : i < ys.size := by omega
    have go := turn i s xs ys c c2 j h ea eb l1 l2
    obtain ⟨hp, g, d, tk, os⟩ := s
    have it1 : xs[((i : Nat) : Int).toNat]? = some xs[i] := by simp [l1]
    have it2 : ys[((i : Nat) : Int).toNat]? = some ys[i] := by simp [l2]
    have nx : ((i : Int) + 1) = ((i + 1 : Nat) : Int) := by omega
    cases neg with
    | false =>
      simp only [Bool.false_eq_true, if_false] at hcd
      subst hcd
      wp_walk using wpAny_loadPart' ea, wpAny_loadPart' eb
      rw [it1, it2]
      refine wpAny_bind (wpAny_mono go (fun r s2 q => ?_) fun _ _ x => x)
      obtain ⟨j2, q1, q2⟩ := q
      cases r with
      | true =>
        have more := ih (i + 1) (by omega) (by omega) s2 j2 (q1 rfl)
        obtain ⟨hp2, g2, d2, tk2, os2⟩ := s2
        wp_walk
        rw [nx]
        refine ⟨plainId_quiet plain_eq_loop _, codeAny_builtin entry_eq_loop ?_⟩
        rw [Around.under_plainId plain_eq_loop _]
        exact more
      | false =>
        obtain ⟨xs2, ys2, c3, c4, ea2, eb2, n3, n4⟩ := hJ s2 j2
        have out := bad s2 j2 (q2 rfl)
        obtain ⟨hp2, g2, d2, tk2, os2⟩ := s2
        have k1 : xs2[((i : Nat) : Int).toNat]? = some (xs2[i]'(by omega)) := by rw [Int.toNat_natCast]; exact Array.getElem?_eq_getElem _
        have k2 : ys2[((i : Nat) : Int).toNat]? = some (ys2[i]'(by omega)) := by rw [Int.toNat_natCast]; exact Array.getElem?_eq_getElem _
        wp_walk using wpAny_loadPart' ea2, wpAny_loadPart' eb2
        rw [k1, k2]
        wp_walk
        exact out
    | true =>
      simp only [if_true] at hcd
      subst hcd
      wp_walk using wpAny_loadPart' ea, wpAny_loadPart' eb
      rw [it1, it2]
      refine wpAny_bind (wpAny_mono go (fun r s2 q => ?_) fun _ _ x => x)
      obtain ⟨j2, q1, q2⟩ := q
      cases r with
      | true =>
        have more := ih (i + 1) (by omega) (by omega) s2 j2 (q1 rfl)
        obtain ⟨hp2, g2, d2, tk2, os2⟩ := s2
        wp_walk
        rw [nx]
        refine ⟨plainId_quiet plain_eq_loop _, codeAny_builtin entry_eq_loop ?_⟩
        rw [Around.under_plainId plain_eq_loop _]
        exact more
      | false =>
        obtain ⟨xs2, ys2, c3, c4, ea2, eb2, n3, n4⟩ := hJ s2 j2
        have out := bad s2 j2 (q2 rfl)
        obtain ⟨hp2, g2, d2, tk2, os2⟩ := s2
        have k1 : xs2[((i : Nat) : Int).toNat]? = some (xs2[i]'(by omega)) := by rw [Int.toNat_natCast]; exact Array.getElem?_eq_getElem _
        have k2 : ys2[((i : Nat) : Int).toNat]? = some (ys2[i]'(by omega)) := by rw [Int.toNat_natCast]; exact Array.getElem?_eq_getElem _
        wp_walk using wpAny_loadPart' ea2, wpAny_loadPart' eb2
        rw [k1, k2]
        wp_walk
        exact out
theorem listJ {neg : Bool} {a b : Addr} {m : Nat} {J : Shared → Prop} {I : Nat → Shared → Prop} {F : Shared → Prop} (hJ : TwoL a b m J) (turn : ItemsL prog w A.in1 (fun e s' => R (.error e) s') a b m J I F)
    (fin : ∀ s, J s → I m s → R (.ok (.ret (.bool (!neg)))) s) (bad : ∀ s, J s → F s → R (.ok (.ret (.bool neg))) s) {s : Shared} (j : J s) (h : I 0 s) :
    wpAny (model prog w) A.in1 ((if neg = true then Builtin.«list.__ne__» else Builtin.«list.__eq__») ⟨[.ref a, .ref b], []⟩)
      (fun fin s' => match fin with | .done f => R (.ok f) s' | .again c' => c'.quiet = true ∧ codeAny (model prog w) A c' R s') (fun e s' => R (.error e) s') s := by
  obtain ⟨xs, ys, c, c2, ea, eb, n1, n2⟩ := hJ s j
  have go := loopJ (A := A) (R := R) (neg := neg) rfl hJ turn fin bad _ 0 rfl (Nat.zero_le _) s j h
  obtain ⟨hp, g, d, tk, os⟩ := s
  have ll := AutoSeq1.sub_list_list
  have same : ¬ (xs.size != ys.size) = true := by simp [n1, n2]
  cases neg with
  | false =>
    simp only [Bool.false_eq_true, if_false] at go ⊢
    wp_walk using wpAny_loadPart' ea, wpAny_loadPart' eb
    refine ⟨plainId_quiet plain_eq_loop _, codeAny_builtin entry_eq_loop ?_⟩
    rw [Around.under_plainId plain_eq_loop _]
    exact go
  | true =>
    simp only [if_true] at go ⊢
    wp_walk using wpAny_loadPart' ea, wpAny_loadPart' eb
    refine ⟨plainId_quiet plain_eq_loop _, codeAny_builtin entry_eq_loop ?_⟩
    rw [Around.under_plainId plain_eq_loop _]
    exact go
def ItemsT (prog : Program) (w : World) (A : Around) (E : Value → Shared → Prop) (xs ys : Array Value) (J : Shared → Prop) (I : Nat → Shared → Prop) (F : Shared → Prop) : Prop :=
  ∀ i s, J s → I i s → ∀ (h1 : i < xs.size) (h2 : i < ys.size), wpAny (model prog w) A (eqBool xs[i] ys[i]) (fun r s' => J s' ∧ (r = true → I (i + 1) s') ∧ (r = false → F s')) E s
theorem tupJ {neg : Bool} {a b : Addr} {xs ys : Array Value} {c c2 : Nat} {d1 d2 : Option Addr} {s1 s2 : Array (Option Value)} {J : Shared → Prop} {I : Nat → Shared → Prop} {F : Shared → Prop} (turn : ItemsT prog w A.in1 (fun e s' => R (.error e) s') xs ys J I F)
    (fin : ∀ s, J s → I (min xs.size ys.size) s → R (.ok (.ret (.bool (if xs.size = ys.size then !neg else neg)))) s) (bad : ∀ s, J s → F s → R (.ok (.ret (.bool neg))) s) {s : Shared}
    (ea : s.heap.get? a = some { cls := .type "tuple", dict := d1, data := .seq xs c, slots := s1 }) (eb : s.heap.get? b = some { cls := .type "tuple", dict := d2, data := .seq ys c2, slots := s2 }) (j : J s) (h : I 0 s) :
    wpAny (model prog w) A.in1 ((if neg = true then Builtin.«tuple.__ne__» else Builtin.«tuple.__eq__») ⟨[.ref a, .ref b], []⟩)
      (fun fin s' => match fin with | .done f => R (.ok f) s' | .again c' => c'.quiet = true ∧ codeAny (model prog w) A c' R s') (fun e s' => R (.error e) s') s := by
  have tt := AutoSeq1.sub_tuple_tuple
  have hz : (xs.toList.zip ys.toList).length = min xs.size ys.size := by simp
  have step : ∀ (y x : Value) (rest : List (Value × Value)) (i : Nat), (y, x) :: rest = (xs.toList.zip ys.toList).drop i → ∃ (h1 : i < xs.size) (h2 : i < ys.size), y = xs[i] ∧ x = ys[i] ∧ rest = (xs.toList.zip ys.toList).drop (i + 1) := by
    intro y x rest i e
    have lt : i < (xs.toList.zip ys.toList).length := by
      rcases Nat.lt_or_ge i (xs.toList.zip ys.toList).length with h' | h'
      · exact h'
      · rw [List.drop_of_length_le h'] at e; cases e
    have h1 : i < xs.size := by omega
    have h2 : i < ys.size := by omega
    rw [List.drop_eq_getElem_cons lt] at e
    injection e with e1 e2
    exact ⟨h1, h2, by simpa using congrArg Prod.fst e1, by simpa using congrArg Prod.snd e1, e2⟩
  have over : ∀ i : Nat, [] = (xs.toList.zip ys.toList).drop i → i ≤ min xs.size ys.size → i = min xs.size ys.size := by
    intro i e hi
    rcases Nat.lt_or_ge i (xs.toList.zip ys.toList).length with h' | h'
    · rw [List.drop_eq_getElem_cons h'] at e; cases e
    · omega
  have j0 := j
  have h0 := h
  obtain ⟨hp, g, d, tk, os⟩ := s
  cases neg with
  | false =>
    simp only [Bool.false_eq_true, if_false]
    wp_walk using wpAny_loadPart' ea, wpAny_loadPart' eb, wpAny_forIn_list _ (fun rest q s' => q.1 = none ∧ J s' ∧ ∃ i, rest = (xs.toList.zip ys.toList).drop i ∧ i ≤ min xs.size ys.size ∧ I i s') _
    case turn =>
      rintro ⟨y, x⟩ rest q s' ⟨hq, js, i, e, hi, hI⟩
      obtain ⟨h1, h2, rfl, rfl, er⟩ := step _ _ _ _ e
      refine wpAny_bind (wpAny_mono (turn i s' js hI h1 h2) (fun r s2 z => ?_) fun _ _ x => x)
      obtain ⟨j2, q1, q2⟩ := z
      cases r with
      | true =>
        have more := q1 rfl
        wp_walk
        exact ⟨rfl, j2, i + 1, er, by omega, more⟩
      | false =>
        have out := bad s2 j2 (q2 rfl)
        wp_walk
        exact out
    case fin =>
      rintro ⟨q1, q2⟩ s' ⟨hq, js, i, e, hi, hI⟩
      simp only at hq
      subst hq
      have out := fin s' js (over i e hi ▸ hI)
      wp_walk
      by_cases hs : xs.size = ys.size
      · rw [if_pos hs] at out
        simpa [Builtin.Tuple.tupleCompareSizes, hs] using out
      · rw [if_neg hs] at out
        have : (xs.size == ys.size) = false := by simpa using hs
        simpa [Builtin.Tuple.tupleCompareSizes, this] using out
    case h =>
      exact ⟨rfl, j0, 0, rfl, Nat.zero_le _, h0⟩
  | true =>
    simp only [if_true]
    wp_walk using wpAny_loadPart' ea, wpAny_loadPart' eb, wpAny_forIn_list _ (fun rest q s' => q.1 = none ∧ J s' ∧ ∃ i, rest = (xs.toList.zip ys.toList).drop i ∧ i ≤ min xs.size ys.size ∧ I i s') _
    case turn =>
      rintro ⟨y, x⟩ rest q s' ⟨hq, js, i, e, hi, hI⟩
      obtain ⟨h1, h2, rfl, rfl, er⟩ := step _ _ _ _ e
      refine wpAny_bind (wpAny_mono (turn i s' js hI h1 h2) (fun r s2 z => ?_) fun _ _ x => x)
      obtain ⟨j2, q1, q2⟩ := z
      cases r with
      | true =>
        have more := q1 rfl
        wp_walk
        exact ⟨rfl, j2, i + 1, er, by omega, more⟩
      | false =>
        have out := bad s2 j2 (q2 rfl)
        wp_walk
        exact out
    case fin =>
      rintro ⟨q1, q2⟩ s' ⟨hq, js, i, e, hi, hI⟩
      simp only at hq
      subst hq
      have out := fin s' js (over i e hi ▸ hI)
      wp_walk
      by_cases hs : xs.size = ys.size
      · rw [if_pos hs] at out
        simpa [Builtin.Tuple.tupleCompareSizes, hs, bne] using out
      · rw [if_neg hs] at out
        have : (xs.size == ys.size) = false := by simpa using hs
        simpa [Builtin.Tuple.tupleCompareSizes, this, bne] using out
    case h =>
      exact ⟨rfl, j0, 0, rfl, Nat.zero_le _, h0⟩
end
end PySem.SeqAt
set_option Elab.async false
set_option linter.all false
set_option maxRecDepth 100000
set_option maxHeartbeats 4000000
namespace PySem.SeqAt
section
variable {prog : Program} {w : World} {A : Around} {E : Value → Shared → Prop} {Q : Bool → Shared → Prop}
theorem rcJ_list {neg : Bool} {a b : Addr} {m : Nat} {J : Shared → Prop} {I : Nat → Shared → Prop} {Fb : Shared → Prop} (hu : A.units < cLine) (hJ : TwoL a b m J) (turn : ItemsL prog w A.in1 E a b m J I Fb)
    (fin : ∀ s, J s → I m s → Q (!neg) s) (bad : ∀ s, J s → Fb s → Q neg s) {s : Shared} (j : J s) (h : I 0 s) : wpAny (model prog w) A (richCompare (if neg = true then .NotEq else .Eq) (.ref a) (.ref b)) (fun v s' => ∃ r, v = .bool r ∧ Q r s') E s := by
  obtain ⟨xs, ys, c, c2, ea, eb, _, _⟩ := hJ s j
  have go := listJ (A := A) (R := wants (fun v s' => v ≠ .notImplemented ∧ ∃ r, v = .bool r ∧ Q r s') E) (neg := neg) hJ turn (fun s' j' q => ⟨(fun x => nomatch x), _, rfl, fin s' j' q⟩) (fun s' j' q => ⟨(fun x => nomatch x), _, rfl, bad s' j' q⟩) j h
  cases neg with
  | false => exact wpAny_richCompare_same_room (op := .Eq) ⟨_, ea, rfl⟩ ⟨_, eb, rfl⟩ F.slot_list_eq (GQ.call_here F.slot_list_eq ⟨_, ea, rfl⟩ F.entry_list_eq (F.args_list_eq_2 _ _) go) hu
  | true => exact wpAny_richCompare_same_room (op := .NotEq) ⟨_, ea, rfl⟩ ⟨_, eb, rfl⟩ F.slot_list_ne (GQ.call_here F.slot_list_ne ⟨_, ea, rfl⟩ F.entry_list_ne (F.args_list_ne_2 _ _) go) hu
theorem rcJ_lens {neg : Bool} {a b : Addr} {xs ys : Array Value} {s : Shared} (hu : A.units < cLine) (ha : s.heap.IsList a xs) (hb : s.heap.IsList b ys) (hn : xs.size ≠ ys.size) (h : Q neg s) :
    wpAny (model prog w) A (richCompare (if neg = true then .NotEq else .Eq) (.ref a) (.ref b)) (fun v s' => ∃ r, v = .bool r ∧ Q r s') E s := by
  have hn' : (xs.size != ys.size) = true := bne_iff_ne.mpr hn
  cases neg with
  | false => exact RcAt.lists_lengths ha hb hn' hu prog w E _ ⟨_, rfl, h⟩
  | true => exact RcNeAt.lists_lengths ha hb hn' hu prog w E _ ⟨_, rfl, h⟩
theorem rcJ_tup {neg : Bool} {a b : Addr} {xs ys : Array Value} {J : Shared → Prop} {I : Nat → Shared → Prop} {Fb : Shared → Prop} {s : Shared} (hu : A.units < cLine) (ha : s.heap.IsTuple a xs) (hb : s.heap.IsTuple b ys) (turn : ItemsT prog w A.in1 E xs ys J I Fb)
    (fin : ∀ s, J s → I (min xs.size ys.size) s → Q (if xs.size = ys.size then !neg else neg) s) (bad : ∀ s, J s → Fb s → Q neg s) (j : J s) (h : I 0 s) : wpAny (model prog w) A (richCompare (if neg = true then .NotEq else .Eq) (.ref a) (.ref b)) (fun v s' => ∃ r, v = .bool r ∧ Q r s') E s := by
  obtain ⟨⟨k1, d1, da1, s1⟩, e1, t1, n1, q1⟩ := id ha
  obtain ⟨⟨k2, d2, da2, s2⟩, e2, t2, n2, q2⟩ := id hb
  simp only at t1 q1 t2 q2
  subst t1 q1 t2 q2
  have go := tupJ (A := A) (R := wants (fun v s' => v ≠ .notImplemented ∧ ∃ r, v = .bool r ∧ Q r s') E) (neg := neg) turn (fun s' j' q => ⟨(fun x => nomatch x), _, rfl, fin s' j' q⟩) (fun s' j' q => ⟨(fun x => nomatch x), _, rfl, bad s' j' q⟩) e1 e2 j h
  cases neg with
  | false => exact wpAny_richCompare_same_room (op := .Eq) ⟨_, e1, rfl⟩ ⟨_, e2, rfl⟩ F.slot_tuple_eq (GQ.call_here F.slot_tuple_eq ⟨_, e1, rfl⟩ F.entry_tuple_eq (F.args_tuple_eq_2 _ _) go) hu
  | true => exact wpAny_richCompare_same_room (op := .NotEq) ⟨_, e1, rfl⟩ ⟨_, e2, rfl⟩ F.slot_tuple_ne (GQ.call_here F.slot_tuple_ne ⟨_, e1, rfl⟩ F.entry_tuple_ne (F.args_tuple_ne_2 _ _) go) hu
end
end PySem.SeqAt
namespace Uv
open PySem L2 Inn PySem.Spec PyProof.Rows
/-! ### == in depth -/
def flatD : D → Option V
  | .int i => some (.int i)
  | .bl b => some (.bl b)
  | .str x => some (.str x)
  | .non => some .non
  | _ => none
def easyD : D → Bool
  | .int _ => true
  | .non => true
  | .str _ => true
  | .ins _ _ => true
  | _ => false
/-- own == by class -/
abbrev OwnE := Nat → List D → M D
def cmpE (x y : D) : Option Bool := match flatD x, flatD y with
  | some u, some v => some (eqV u v)
  | _, _ => none
def whenB (o : Option Bool) (R : Bool → Prop) : Prop := match o with
  | some b => R b
  | none => False
def flatE (x y : D) : M Bool := fun R => whenB (cmpE x y) R
theorem flatE_ex {x y : D} {R : Bool → Prop} (h : flatE x y R) : ∃ u v, flatD x = some u ∧ flatD y = some v ∧ R (eqV u v) := by
  have h : whenB (cmpE x y) R := h
  unfold cmpE at h
  cases hu : flatD x with
  | none => rw [hu] at h; exact h.elim
  | some u =>
    cases hv : flatD y with
    | none => rw [hu, hv] at h; exact h.elim
    | some v =>
      rw [hu, hv] at h
      exact ⟨u, v, rfl, rfl, h⟩
def eq0 (s : OwnE) : D → D → M Bool := fun x y R => match x with
  | .ins c l => easyD y = true ∧ tst (s c [.ins c l, y]) R
  | x => flatE x y R
def eqS (f : D → D → M Bool) : List D → List D → M Bool
  | x :: xs, y :: ys => fun R => f x y fun b => ite2 b (eqS f xs ys R) (R false)
  | [], [] => rt true
  | _, _ => rt false
def eqL (f : D → D → M Bool) (a b : List D) : M Bool := if a.length = b.length then eqS f a b else rt false
def eq1 (s : OwnE) (f : D → D → M Bool) : D → D → M Bool := fun x y R => match x, y with
  | .lst a, .lst b => eqL f a b R
  | .tup a, .tup b => eqS f a b R
  | x, y => eq0 s x y R
/-- to the depth n -/
def eqD (s : OwnE) : Nat → D → D → M Bool
  | 0 => eq0 s
  | n + 1 => eq1 s (eqD s n)
/-- a value is equal to itself -/
def SameE (f : D → D → M Bool) : Prop := ∀ (T : Ct) (N P : Addr → Prop) (H : Hp) (v : V) (a b : D) (R : Bool → Prop), (∀ c c', c < T.n → c' < T.n → T.at_ c = T.at_ c' → c = c') → IsD T N P H v a → IsD T N P H v b → f a b R → R true
def SameOwn (s : OwnE) : Prop := ∀ (T : Ct) (N P : Addr → Prop) (H : Hp) (us : List V) (c : Nat) (a b : List D) (R : Bool → Prop), (∀ c c', c < T.n → c' < T.n → T.at_ c = T.at_ c' → c = c') → IsDs T N P H us a → IsDs T N P H us b → tst (s c [.ins c a, .ins c b]) R → R true
theorem eqV_refl (v : V) (h : flatV v = true) : eqV v v = true := by
  cases v <;> first | rfl | exact absurd (show false = true from h) Bool.false_ne_true | (unfold eqV; simp)
theorem zip_inj {fs : List Str} : ∀ {us us' : List V}, us.length = fs.length → us'.length = fs.length → fs.zip us = fs.zip us' → us = us' := by
  induction fs with
  | nil =>
    intro us us' h h' _
    rw [List.length_eq_zero_iff.mp h, List.length_eq_zero_iff.mp h']
  | cons g gs ih =>
    intro us us' h h' e
    cases us with
    | nil => cases h
    | cons u us =>
      cases us' with
      | nil => cases h'
      | cons u' us' =>
        rw [List.zip_cons_cons, List.zip_cons_cons] at e
        injection e with e1 e2
        rw [ih (Nat.succ.inj h) (Nat.succ.inj h') e2, (Prod.mk.inj e1).2]
theorem same0 {s : OwnE} (hs : SameOwn s) : SameE (eq0 s) := by
  intro T N P H v a b R inj ha hb h
  unfold eq0 at h
  split at h
  · obtain ⟨he, h⟩ := h
    cases ha with | ins hc n e hl hds =>
    cases hb with
    | ins hc2 n2 e2 hl2 hds2 =>
      rw [e] at e2
      injection e2 with e2
      injection e2 with e3 e4 e5
      have ec := inj _ _ hc hc2 e3
      subst ec
      have eu := zip_inj hl hl2 e5
      subst eu
      exact hs T N P H _ _ _ _ R inj hds hds2 h
    | lst n2 e2 _ => rw [e] at e2; cases e2
    | tup n2 e2 _ => rw [e] at e2; cases e2
    | dct n2 e2 _ _ => rw [e] at e2; cases e2
    | pot _ => cases he
    | cls => cases he
    | knw => cases he
  · obtain ⟨u, w, hu, hw, h⟩ := flatE_ex h
    have key : ∀ {x : D} {z : V}, IsD T N P H v x → flatD x = some z → v = z ∧ flatV z = true := by
      intro x z hx hz
      cases hx <;> cases hz <;> exact ⟨rfl, rfl⟩
    obtain ⟨e1, f1⟩ := key ha hu
    obtain ⟨e2, _⟩ := key hb hw
    rw [← e2, ← e1, eqV_refl v (e1 ▸ f1)] at h
    exact h
theorem sameS {f : D → D → M Bool} (hf : SameE f) {T : Ct} {N P : Addr → Prop} {H : Hp} (inj : ∀ c c', c < T.n → c' < T.n → T.at_ c = T.at_ c' → c = c') {R : Bool → Prop} : ∀ {us : List V} {a b : List D}, IsDs T N P H us a → IsDs T N P H us b → eqS f a b R → R true
  | _, _, _, .nil, .nil, h => h
  | _, _, _, .cons h1 t1, .cons h2 t2, h => sameS hf inj t1 t2 (hf T N P H _ _ _ _ inj h1 h2 h)
theorem sameD {s : OwnE} (hs : SameOwn s) : ∀ n : Nat, SameE (eqD s n)
  | 0 => same0 hs
  | n + 1 => by
    intro T N P H v a b R inj ha hb h
    have h : eq1 s (eqD s n) a b R := h
    unfold eq1 at h
    split at h
    · cases ha with | lst _ e hd =>
      cases hb with | lst _ e2 hd2 =>
      rw [e] at e2
      injection e2 with e2
      injection e2 with e2
      subst e2
      unfold eqL at h
      rw [if_pos (hd.len.symm.trans hd2.len)] at h
      exact sameS (sameD hs n) inj hd hd2 h
    · cases ha with | tup _ e hd =>
      cases hb with | tup _ e2 hd2 =>
      rw [e] at e2
      injection e2 with e2
      injection e2 with e2
      subst e2
      exact sameS (sameD hs n) inj hd hd2 h
    · exact same0 hs T N P H v a b R inj ha hb h
end Uv
set_option Elab.async false
set_option linter.all false
set_option maxRecDepth 100000
set_option maxHeartbeats 4000000
namespace PySem.SeqAt
theorem eqBool_rc {prog : Program} {w : World} {A : Around} {E : Value → Shared → Prop} {s : Shared} {l : Addr} {v : Value} {Q : Bool → Shared → Prop} (hne : Value.ref l ≠ v) (h : wpAny (model prog w) A (richCompare .Eq (.ref l) v) (fun z s' => ∃ r, z = .bool r ∧ Q r s') E s) : wpAny (model prog w) A (eqBool (.ref l) v) Q E s := by
  unfold eqBool
  refine wpAny_holding (wpAny_ite_split (fun e => absurd (eq_of_beq e) hne) fun _ => wpAny_bind (wpAny_mono h (fun z s' hz => ?_) fun _ _ e => e))
  obtain ⟨r, rfl, q⟩ := hz
  exact wpAny_truthy_bool q
theorem eqBool_is {prog : Program} {w : World} {A : Around} {E : Value → Shared → Prop} {s : Shared} {u : Value} {Q : Bool → Shared → Prop} (h : Q true s) : wpAny (model prog w) A (eqBool u u) Q E s := EqAt.same (A := A) (s := s) u prog w E Q h
end PySem.SeqAt
namespace Uv
open PySem L2 Inn PySem.Spec PyProof.Rows
structure EqsB (T : Ct) (P : Program) (w : World) (K : PySem.W.Frag) (mg : Str → Option Value) (base : Heap) (k : Nat) (s : OwnE) : Prop where
  all : ∀ c, c < T.n → (∀ ds R, ¬ s c ds R) ∨ ∃ f fd ps b, EqF K (T.at_ c) f ∧ FnOk P w K mg base CX0 k f fd ps (SpD T b 2 (s c)) ∧ L2.Binds K fd ps []
  same : SameOwn s
  inj : ∀ c c', c < T.n → c' < T.n → T.at_ c = T.at_ c' → c = c'
  sub2 : ∀ c c', c < T.n → c' < T.n → c ≠ c' → PySem.W.subIn K (.ref (T.at_ c')) (.ref (T.at_ c)) = some false
section
variable {T : Ct} {X : Cx} {W : Wo} {k n : Nat} {s : OwnE}
/-- what comes of an own == or of one in depth -/
def EqO (X : Cx) (W : Wo) (pins : List (Addr × Obj)) (σ : L2.St) (H : Hp) (R : Bool → Prop) (r : Bool) (s' : Shared) : Prop := R r ∧ ∃ H', Inv X pins σ H' s' ∧ Up W.toWld H H' ∧ W.I H'
def RunE (T : Ct) (X : Cx) (W : Wo) (k : Nat) (f : D → D → M Bool) : Prop :=
  ∀ (A : Around) (pins : List (Addr × Obj)) (s : Shared) (σ : L2.St) (H : Hp) (u v : V) (x y : Value) (a b : D) (R : Bool → Prop), L2.Sub X k A → Inv X pins σ H s → W.I H → Is T W H u a → Is T W H v b → RelV u x → RelV v y → f a b R →
    wpAny (model X.prog X.w) A (eqBool x y) (EqO X W pins σ H R) X.xe s
theorem RunE.mono {f : D → D → M Bool} (h : RunE T X W k f) (hn : k ≤ n) : RunE T X W n f := fun A pins s σ H u v x y a b R sb => h A pins s σ H u v x y a b R (sb.mono hn)
theorem looks_D {pins : List (Addr × Obj)} {st : Shared} {σ : L2.St} {H : Hp} {v : V} {u : Value} {d : D} (I : Inv X pins σ H st) (hx : Is T W H v d) (rv : RelV v u) (he : easyD d = true) : PySem.W.Looks (model X.prog X.w) st.heap (typeOf u) (tyv T d) := by
  cases hx with
  | int => obtain ⟨t, rfl⟩ := rv; exact .of_pure rfl
  | non => cases rv; exact .of_pure rfl
  | str => obtain ⟨t, rfl⟩ := rv; exact .of_pure rfl
  | ins hc nM e hl hs =>
    cases rv
    obtain ⟨mA, J, _⟩ := ins_get I.hok e
    obtain ⟨od, J, _⟩ := J.look
    exact J.type
  | _ => cases he
theorem own_run {f : Addr} {fd : FuncData} {ps : List Str} {b0 : Bool} {c : Nat} (F : FnOk X.prog X.w X.K X.mg X.base CX0 k f fd ps (SpD T b0 2 (s c))) (hbi : L2.Binds X.K fd ps []) {A : Around} {pins : List (Addr × Obj)} {st : Shared} {σ : L2.St} {H : Hp} {u v : V} {x y : Value} {a b : D} {R : Bool → Prop}
    (hr : Room k A) (fr : A.frames = X.A.frames) (I : Inv X pins σ H st) (hI : W.I H) (ha : Is T W H u a) (hb : Is T W H v b) (rx : RelV u x) (ry : RelV v y) (hm : tst (s c [a, b]) R) :
    wpAny (model X.prog X.w) A (call (.ref f) [x, y]) (fun z s' => ∃ r, z = .bool r ∧ EqO X W pins σ H R r s') X.xe st := by
  have sp : SpD T b0 2 (s c) [u, v] H (fun z H' => (∃ r, z = .bl r ∧ R r) ∧ Up W.toWld H H' ∧ W.I H') E0 :=
    ⟨W, [a, b], _, .cons ha (.cons hb .nil), rfl, hI, hm, fun d w H' hd u' i' h' _ => by
      cases h' with
      | bl => exact ⟨⟨_, rfl, hd⟩, u', i'⟩
      | _ => exact hd.elim⟩
  have hl := F.len _ _ _ _ sp
  have e0 : Env0 X.prog X.w X.K X.mg X.base A X.stack st H := by
    have e := I.env0
    exact ⟨by rw [fr]; exact e.frames, e.mod, e.bs, e.bsz, e.funs, e.frf, e.hok, e.bare⟩
  refine wpAny_call (codeAny_mono (F.run A X.stack st H ⟨[x, y], []⟩ [x, y] [u, v] _ E0 hr e0 (by
    have h := hbi st [x, y] I.kIn (by simpa using hl)
    simpa using h) (.cons rx (.cons ry .nil)) sp) fun rr s' hq => ?_)
  cases rr with
  | error e => exact False.elim hq
  | ok fl =>
    cases fl with
    | ret w =>
      obtain ⟨z, H', I', rz, ⟨r, ez, hr'⟩, ex, iz⟩ := I.after hq
      subst ez
      cases rz
      exact ⟨r, rfl, hr', H', I', ex, iz⟩
    | next => exact False.elim hq
    | brk => exact False.elim hq
    | cont => exact False.elim hq
theorem rcOwn {neg : Bool} (B : EqsB T X.prog X.w X.K X.mg X.base k s) {A : Around} {pins : List (Addr × Obj)} {st : Shared} {σ : L2.St} {H : Hp} {u v : V} {x y : Value} {c : Nat} {l : List D} {b : D} {R : Bool → Prop}
    (sb : L2.Sub X (k + 1) A) (I : Inv X pins σ H st) (hI : W.I H) (ha : Is T W H u (.ins c l)) (hb : Is T W H v b) (rx : RelV u x) (ry : RelV v y) (he : easyD b = true) (hm : tst (s c [.ins c l, b]) R) :
    wpAny (model X.prog X.w) A (richCompare (if neg = true then .NotEq else .Eq) x y) (fun z s' => ∃ r, z = .bool (if neg = true then !r else r) ∧ EqO X W pins σ H R r s') X.xe st := by
  have lk := looks_D (X := X) I hb ry he
  have hc : c < T.n := by
    cases ha with | ins hc _ _ _ _ => exact hc
  rcases B.all c hc with no | ⟨f, fd, ps, b0, E, F, hbi⟩
  · exact (no _ _ hm).elim
  have nf : PySem.W.notFirst X.K (T.at_ c) (tyv T b) = true := by
    unfold PySem.W.notFirst
    cases hb with
    | int => show (_ || PySem.W.subIn X.K (.type "int") (.ref (T.at_ c)) == some false) = true; rw [E.sub "int" (by decide)]; simp
    | non => show (_ || PySem.W.subIn X.K (.type "NoneType") (.ref (T.at_ c)) == some false) = true; rw [E.sub "NoneType" (by decide)]; simp
    | str => show (_ || PySem.W.subIn X.K (.type "str") (.ref (T.at_ c)) == some false) = true; rw [E.sub "str" (by decide)]; simp
    | @ins p2 dx2 c2 us2 l2 hc2 _ _ _ _ =>
      by_cases e : c2 = c
      · subst e
        show (Value.ref (T.at_ c2) == Value.ref (T.at_ c2) || _) = true
        simp
      · show (_ || PySem.W.subIn X.K (.ref (T.at_ c2)) (.ref (T.at_ c)) == some false) = true
        rw [B.sub2 c c2 hc hc2 (fun z => e z.symm)]
        simp
    | _ => cases he
  have ha0 := ha
  cases ha with | ins hc nM e1 hl hs =>
  cases rx
  obtain ⟨mA, J, _⟩ := ins_get I.hok e1
  obtain ⟨od, J, _⟩ := J.look
  obtain ⟨m, hF⟩ := I.fr
  cases neg with
  | false =>
    refine PySem.W.cmp_K (op := .Eq) sb.room.units0 hF I.ok.mod.kin J lk nf E.at_ E.isf ?_
    refine wpAny_mono (own_run F hbi (sb.room.mono (Nat.le_succ _)) sb.fr I hI ha0 hb rfl ry hm) (fun z s' q => ?_) fun _ _ e => e
    obtain ⟨r, rfl, q⟩ := q
    exact ⟨r, rfl, q⟩
  | true =>
    refine PySem.W.ne_K (by have := sb.room.un; omega) I.kIn J lk nf E.ne E.hm E.at_ E.isf ?_
    refine wpAny_mono (own_run F hbi sb.room.in1 sb.fr I hI ha0 hb rfl ry hm) (fun z s' q => ?_) fun _ _ e => e
    obtain ⟨r, rfl, q⟩ := q
    exact ⟨r, rfl, r, rfl, q⟩
theorem run0 (B : EqsB T X.prog X.w X.K X.mg X.base k s) : RunE T X W (k + 1) (eq0 s) := by
  intro A pins st σ H u v x y a b R sb I hI ha hb rx ry h
  have h0 := h
  unfold eq0 at h
  split at h
  · obtain ⟨he, hm⟩ := h
    by_cases hxy : x = y
    · subst hxy
      have huv : u = v := by
        have ha0 := ha
        cases ha with | ins hc nM e1 hl hs =>
        cases rx
        cases hb with
        | int => obtain ⟨t, z⟩ := ry; cases z
        | str => obtain ⟨t, z⟩ := ry; cases z
        | non => cases ry
        | ins hc2 nM2 e2 hl2 hs2 => cases ry; rfl
        | _ => cases he
      subst huv
      exact PySem.SeqAt.eqBool_is ⟨same0 B.same T W.M W.P H u _ _ R B.inj ha hb h0, H, I, Up.refl _, hI⟩
    · have hx : ∃ p, x = .ref p := by
        cases ha
        cases rx
        exact ⟨_, rfl⟩
      obtain ⟨p, rfl⟩ := hx
      exact PySem.SeqAt.eqBool_rc hxy (wpAny_mono (rcOwn (neg := false) B sb I hI ha hb rx ry he hm) (fun z s' q => q) fun _ _ e => e)
  · obtain ⟨z1, z2, e1, e2, hr⟩ := flatE_ex h
    have key : ∀ {v : V} {x : D} {z : V}, Is T W H v x → flatD x = some z → v = z ∧ flatV z = true := by
      intro v x z hx hz
      cases hx <;> cases hz <;> exact ⟨rfl, rfl⟩
    obtain ⟨rfl, f1⟩ := key ha e1
    obtain ⟨rfl, f2⟩ := key hb e2
    exact eqAt_V (A := A) (s := st) rx ry f1 f2 X.prog X.w X.xe _ ⟨hr, H, I, Up.refl _, hI⟩
end
end Uv
set_option Elab.async false
set_option linter.all false
set_option maxRecDepth 100000
set_option maxHeartbeats 4000000
namespace Uv
open PySem L2 Inn PySem.Spec PyProof.Rows
section
variable {T : Ct} {X : Cx} {W : Wo} {k n : Nat} {s : OwnE} {f : D → D → M Bool}
def JJ (X : Cx) (W : Wo) (pins : List (Addr × Obj)) (σ : L2.St) (H : Hp) (s' : Shared) : Prop := ∃ H', Inv X pins σ H' s' ∧ Up W.toWld H H' ∧ W.I H'
theorem eqS_step {la lb : List D} {i : Nat} {R : Bool → Prop} (h : eqS f (la.drop i) (lb.drop i) R) {a b : D} (h1 : la[i]? = some a) (h2 : lb[i]? = some b) : f a b fun r => ite2 r (eqS f (la.drop (i + 1)) (lb.drop (i + 1)) R) (R false) := by
  obtain ⟨l1, e1⟩ := List.getElem?_eq_some_iff.mp h1
  obtain ⟨l2, e2⟩ := List.getElem?_eq_some_iff.mp h2
  rw [List.drop_eq_getElem_cons l1, List.drop_eq_getElem_cons l2, e1, e2] at h
  exact h
theorem eqS_over {la lb : List D} {R : Bool → Prop} (h : eqS f (la.drop (min la.length lb.length)) (lb.drop (min la.length lb.length)) R) : R (decide (la.length = lb.length)) := by
  rcases Nat.lt_trichotomy la.length lb.length with l | l | l
  · rw [Nat.min_eq_left (Nat.le_of_lt l), List.drop_length, List.drop_eq_getElem_cons l] at h
    rw [decide_eq_false (Nat.ne_of_lt l)]
    exact h
  · rw [l, Nat.min_self] at h
    have e1 : la.drop lb.length = [] := by rw [← l, List.drop_length]
    rw [e1, List.drop_length] at h
    rw [decide_eq_true l]
    exact h
  · rw [Nat.min_eq_right (Nat.le_of_lt l), List.drop_length, List.drop_eq_getElem_cons l] at h
    rw [decide_eq_false (Nat.ne_of_gt l)]
    exact h
theorem turnJ (hf : RunE T X W k f) {A : Around} (sb : L2.Sub X k A) {pins : List (Addr × Obj)} {σ : L2.St} {H : Hp} {us vs : List V} {la lb : List D} {xs ys : Array Value} {its its2 : List Value} {R : Bool → Prop}
    (ha : Iss T W H us la) (hb : Iss T W H vs lb) (rx : Vals us its) (ry : Vals vs its2) (e1 : xs = its.toArray) (e2 : ys = its2.toArray) (i : Nat) (st : Shared) (j : JJ X W pins σ H st) (h : eqS f (la.drop i) (lb.drop i) R) (h1 : i < xs.size) (h2 : i < ys.size) :
    wpAny (model X.prog X.w) A (eqBool xs[i] ys[i]) (fun r s' => JJ X W pins σ H s' ∧ (r = true → eqS f (la.drop (i + 1)) (lb.drop (i + 1)) R) ∧ (r = false → R false)) X.xe st := by
  subst e1 e2
  obtain ⟨H1, I1, u1, i1⟩ := j
  have k1 : i < us.length := by rw [rx.length]; simpa using h1
  have k2 : i < vs.length := by rw [ry.length]; simpa using h2
  obtain ⟨x, ex, rx1⟩ := rx.get (List.getElem?_eq_getElem k1)
  obtain ⟨y, ey, ry1⟩ := ry.get (List.getElem?_eq_getElem k2)
  obtain ⟨a, ea, ha1⟩ := ha.getL (List.getElem?_eq_getElem k1)
  obtain ⟨b, eb, hb1⟩ := hb.getL (List.getElem?_eq_getElem k2)
  have g1 : its.toArray[i] = x := by
    have : i < its.length := by simpa using h1
    rw [List.getElem?_eq_getElem this] at ex
    simpa using Option.some.inj ex
  have g2 : its2.toArray[i] = y := by
    have : i < its2.length := by simpa using h2
    rw [List.getElem?_eq_getElem this] at ey
    simpa using Option.some.inj ey
  rw [g1, g2]
  refine wpAny_mono (hf A pins st σ H1 _ _ x y a b _ sb I1 i1 (Is.up u1 ha1) (Is.up u1 hb1) rx1 ry1 (eqS_step h ea eb)) (fun r s' q => ?_) fun _ _ e => e
  obtain ⟨hr, H2, I2, u2, i2⟩ := q
  refine ⟨⟨H2, I2, u1.trans u2, i2⟩, fun z => ?_, fun z => ?_⟩ <;> subst z <;> exact hr
theorem rcLst {neg : Bool} (hf : RunE T X W k f) {A : Around} {pins : List (Addr × Obj)} {st : Shared} {σ : L2.St} {H : Hp} {u v : V} {x y : Value} {la lb : List D} {R : Bool → Prop}
    (sb : L2.Sub X (k + 1) A) (I : Inv X pins σ H st) (hI : W.I H) (ha : Is T W H u (.lst la)) (hb : Is T W H v (.lst lb)) (rx : RelV u x) (ry : RelV v y) (hm : eqL f la lb R) :
    wpAny (model X.prog X.w) A (richCompare (if neg = true then .NotEq else .Eq) x y) (fun z s' => ∃ r, z = .bool (if neg = true then !r else r) ∧ EqO X W pins σ H R r s') X.xe st := by
  cases ha with | @lst p us _ nM e hs =>
  cases hb with | @lst q vs _ nM2 e2 hs2 =>
  cases rx
  cases ry
  have start : JJ X W pins σ H st := ⟨H, I, Up.refl _, hI⟩
  unfold eqL at hm
  split at hm
  · rename_i len
    have read : ∀ s', JJ X W pins σ H s' → ∃ its its2 c c2, s'.heap.get? p = some { cls := .type "list", data := .seq (its : List Value).toArray c } ∧ s'.heap.get? q = some { cls := .type "list", data := .seq (its2 : List Value).toArray c2 } ∧ Vals us its ∧ Vals vs its2 := by
      rintro s' ⟨H1, I1, u1, _⟩
      obtain ⟨_, its, c, r, g⟩ := I1.hok p _ (u1 _ _ nM e)
      obtain ⟨_, its2, c2, r2, g2⟩ := I1.hok q _ (u1 _ _ nM2 e2)
      exact ⟨its, its2, c, c2, g, g2, r, r2⟩
    have lus : us.length = la.length := hs.len
    have lvs : vs.length = la.length := hs2.len.trans len.symm
    have go := PySem.SeqAt.rcJ_list (neg := neg) (A := A) (E := X.xe) (prog := X.prog) (w := X.w) (a := p) (b := q) (m := la.length) (J := JJ X W pins σ H) (I := fun i _ => eqS f (la.drop i) (lb.drop i) R) (Fb := fun _ => R false) (Q := fun r s' => EqO X W pins σ H R (if neg = true then !r else r) s') sb.room.units0
      (fun s' j => by
        obtain ⟨its, its2, c, c2, g, g2, r, r2⟩ := read s' j
        exact ⟨_, _, c, c2, g, g2, by rw [List.size_toArray, ← r.length, lus], by rw [List.size_toArray, ← r2.length, lvs]⟩)
      (fun i s' xs ys c c2 j h g1 g2 h1 h2 => by
        obtain ⟨its, its2, c3, c4, g3, g4, r, r2⟩ := read s' j
        rw [g1] at g3
        rw [g2] at g4
        have z1 : xs = its.toArray := by cases g3; rfl
        have z2 : ys = its2.toArray := by cases g4; rfl
        exact turnJ hf sb.in1 hs hs2 r r2 z1 z2 i s' j h h1 h2)
      (fun s' j h => by
        have e : lb.length = la.length := len.symm
        have h : R true := by
          have h : eqS f (la.drop la.length) (lb.drop la.length) R := h
          rw [← e, List.drop_length, e, List.drop_length] at h
          exact h
        obtain ⟨H1, I1, u1, i1⟩ := j
        cases neg <;> exact ⟨h, H1, I1, u1, i1⟩)
      (fun s' j h => by
        obtain ⟨H1, I1, u1, i1⟩ := j
        cases neg <;> exact ⟨h, H1, I1, u1, i1⟩) start hm
    refine wpAny_mono go (fun z s' h => ?_) fun _ _ e => e
    obtain ⟨r, rfl, h⟩ := h
    refine ⟨if neg = true then !r else r, ?_, h⟩
    cases neg <;> simp
  · rename_i len
    obtain ⟨its, r, pl, _⟩ := I.list (SqL.of e)
    obtain ⟨its2, r2, pl2, _⟩ := I.list (SqL.of e2)
    have go := PySem.SeqAt.rcJ_lens (neg := neg) (A := A) (E := X.xe) (prog := X.prog) (w := X.w) (s := st) (Q := fun r s' => EqO X W pins σ H R (if neg = true then !r else r) s') sb.room.units0 pl.isList pl2.isList
      (by rw [List.size_toArray, List.size_toArray, ← r.length, ← r2.length, hs.len, hs2.len]; exact len) (by cases neg <;> exact ⟨hm, start⟩)
    refine wpAny_mono go (fun z s' h => ?_) fun _ _ e => e
    obtain ⟨r, rfl, h⟩ := h
    refine ⟨if neg = true then !r else r, ?_, h⟩
    cases neg <;> simp
theorem rcTup {neg : Bool} (hf : RunE T X W k f) {A : Around} {pins : List (Addr × Obj)} {st : Shared} {σ : L2.St} {H : Hp} {u v : V} {x y : Value} {la lb : List D} {R : Bool → Prop}
    (sb : L2.Sub X (k + 1) A) (I : Inv X pins σ H st) (hI : W.I H) (ha : Is T W H u (.tup la)) (hb : Is T W H v (.tup lb)) (rx : RelV u x) (ry : RelV v y) (hm : eqS f la lb R) :
    wpAny (model X.prog X.w) A (richCompare (if neg = true then .NotEq else .Eq) x y) (fun z s' => ∃ r, z = .bool (if neg = true then !r else r) ∧ EqO X W pins σ H R r s') X.xe st := by
  cases ha with | @tup p us _ nM e hs =>
  cases hb with | @tup q vs _ nM2 e2 hs2 =>
  cases rx
  cases ry
  have start : JJ X W pins σ H st := ⟨H, I, Up.refl _, hI⟩
  obtain ⟨its, r, pl, _⟩ := I.tuple (SqT.of e)
  obtain ⟨its2, r2, pl2, _⟩ := I.tuple (SqT.of e2)
  have z1 : its.toArray.size = la.length := by rw [List.size_toArray, ← r.length]; exact hs.len
  have z2 : its2.toArray.size = lb.length := by rw [List.size_toArray, ← r2.length]; exact hs2.len
  have go := PySem.SeqAt.rcJ_tup (neg := neg) (A := A) (E := X.xe) (prog := X.prog) (w := X.w) (J := JJ X W pins σ H) (I := fun i _ => eqS f (la.drop i) (lb.drop i) R) (Fb := fun _ => R false) (Q := fun r s' => EqO X W pins σ H R (if neg = true then !r else r) s') sb.room.units0 pl pl2
    (fun i s' j h h1 h2 => turnJ hf sb.in1 hs hs2 r r2 rfl rfl i s' j h h1 h2)
    (fun s' j h => by
      rw [z1, z2] at h ⊢
      have h := eqS_over h
      obtain ⟨H1, I1, u1, i1⟩ := j
      by_cases le : la.length = lb.length
      · rw [if_pos le]
        rw [decide_eq_true le] at h
        cases neg <;> exact ⟨h, H1, I1, u1, i1⟩
      · rw [if_neg le]
        rw [decide_eq_false le] at h
        cases neg <;> exact ⟨h, H1, I1, u1, i1⟩)
    (fun s' j h => by
      obtain ⟨H1, I1, u1, i1⟩ := j
      cases neg <;> exact ⟨h, H1, I1, u1, i1⟩) start hm
  refine wpAny_mono go (fun z s' h => ?_) fun _ _ e => e
  obtain ⟨r, rfl, h⟩ := h
  refine ⟨if neg = true then !r else r, ?_, h⟩
  cases neg <;> simp
theorem Is.ref1 {H : Hp} {u : V} {l : List D} (h : Is T W H u (.lst l)) : ∃ p, u = .ref p := by cases h; exact ⟨_, rfl⟩
theorem Is.ref2 {H : Hp} {u : V} {l : List D} (h : Is T W H u (.tup l)) : ∃ p, u = .ref p := by cases h; exact ⟨_, rfl⟩
theorem runD (B : EqsB T X.prog X.w X.K X.mg X.base k s) : ∀ n : Nat, RunE T X W (k + 1 + n) (eqD s n)
  | 0 => run0 B
  | n + 1 => by
    intro A pins st σ H u v x y a b R sb I hI ha hb rx ry h
    have h0 := h
    have h : eq1 s (eqD s n) a b R := h
    have same : x = y → (∃ p, u = .ref p) → (∃ p, v = .ref p) → wpAny (model X.prog X.w) A (eqBool x y) (EqO X W pins σ H R) X.xe st := by
      rintro rfl ⟨p, rfl⟩ ⟨q, rfl⟩
      cases rx
      cases ry
      exact PySem.SeqAt.eqBool_is ⟨sameD B.same (n + 1) T W.M W.P H _ a b R B.inj ha hb h0, H, I, Up.refl _, hI⟩
    unfold eq1 at h
    split at h
    · by_cases hxy : x = y
      · exact same hxy ha.ref1 hb.ref1
      · obtain ⟨p, rfl⟩ := ha.ref1
        cases rx
        exact PySem.SeqAt.eqBool_rc hxy (wpAny_mono (rcLst (neg := false) (runD B n) sb I hI ha hb rfl ry h) (fun z s' q => q) fun _ _ e => e)
    · by_cases hxy : x = y
      · exact same hxy ha.ref2 hb.ref2
      · obtain ⟨p, rfl⟩ := ha.ref2
        cases rx
        exact PySem.SeqAt.eqBool_rc hxy (wpAny_mono (rcTup (neg := false) (runD B n) sb I hI ha hb rfl ry h) (fun z s' q => q) fun _ _ e => e)
    · exact run0 B A pins st σ H u v x y a b R (sb.mono (by omega)) I hI ha hb rx ry h
/-- at the top -/
def cmpT (x y : D) : Option Bool := match flatD x, flatD y with
  | some u, some v => if scal u v = true then some (eqV u v) else none
  | _, _ => none
theorem scal_eq {u v : V} (h : scal u v = true) : eqV u v = decide (u = v) ∨ ∃ a b, u = .byt a ∧ v = .byt b := by
  cases u <;> cases v <;> first
    | exact absurd h Bool.false_ne_true
    | exact .inr ⟨_, _, rfl, rfl⟩
    | (refine .inl ?_; unfold eqV; rw [Bool.eq_iff_iff]; simp)
theorem flat_nb {x : D} {a : Array UInt8} : flatD x ≠ some (.byt a) := by
  intro h
  cases x <;> cases h
theorem cmpT_ex {x y : D} {R : Bool → Prop} (h : whenB (cmpT x y) R) : ∃ u v, flatD x = some u ∧ flatD y = some v ∧ scal u v = true ∧ R (decide (u = v)) := by
  unfold cmpT at h
  cases hu : flatD x with
  | none => rw [hu] at h; exact h.elim
  | some u =>
    cases hv : flatD y with
    | none => rw [hu, hv] at h; exact h.elim
    | some v =>
      rw [hu, hv] at h
      dsimp only at h
      by_cases hs : scal u v = true
      · rw [if_pos hs] at h
        rcases scal_eq hs with e | ⟨a, b, e1, _⟩
        · exact ⟨u, v, rfl, rfl, hs, e ▸ h⟩
        · rw [e1] at hu
          exact absurd hu flat_nb
      · rw [if_neg hs] at h
        exact h.elim
def top1 (s : OwnE) (f : D → D → M Bool) : D → D → M Bool := fun x y R => match x, y with
  | .lst a, .lst b => eqL f a b R
  | .tup a, .tup b => eqS f a b R
  | .ins c l, y => easyD y = true ∧ tst (s c [.ins c l, y]) R
  | x, y => whenB (cmpT x y) R
def eqT (s : OwnE) (n : Nat) : D → D → M D := fun x y R => top1 s (eqD s n) x y fun b => R (.bl b)
def neT (s : OwnE) (n : Nat) : D → D → M D := fun x y R => top1 s (eqD s n) x y fun b => R (.bl (!b))
theorem op_top {neg : Bool} (B : EqsB T X.prog X.w X.K X.mg X.base k s) (n : Nat) (hr : Room (k + 2 + n) X.A) : Op2 T X W (compareOp (if neg = true then .NotEq else .Eq)) (fun x y R => top1 s (eqD s n) x y fun b => R (.bl (if neg = true then !b else b))) := by
  intro pins st σ H u v x y Q I rx ry ⟨a, b, R, ha, hb, hI, hg, q⟩
  have sb : L2.Sub X (k + 1 + n + 1) X.A := ⟨hr.mono (by omega), rfl⟩
  obtain ⟨Rb, hRb⟩ : ∃ Rb : Bool → Prop, Rb = fun b => R (.bl (if neg = true then !b else b)) := ⟨_, rfl⟩
  dsimp only at hg
  rw [← hRb] at hg
  have fin : ∀ z s', (∃ r, z = .bool (if neg = true then !r else r) ∧ EqO X W pins σ H Rb r s') → EP X pins σ Q z s' := by
    rintro z s' ⟨r, rfl, hr, H', I', u', i'⟩
    rw [hRb] at hr
    exact ⟨.bl _, H', I', rfl, q _ _ H' hr u' i' .bl⟩
  unfold top1 at hg
  split at hg
  · have go := rcLst (neg := neg) (runD B n) sb I hI ha hb rx ry hg
    cases neg <;> exact wpAny_mono go fin fun _ _ e => e
  · have go := rcTup (neg := neg) (runD B n) sb I hI ha hb rx ry hg
    cases neg <;> exact wpAny_mono go fin fun _ _ e => e
  · have go := rcOwn (neg := neg) B (sb.mono (by omega)) I hI ha hb rx ry hg.1 hg.2
    cases neg <;> exact wpAny_mono go fin fun _ _ e => e
  · obtain ⟨z1, z2, e1, e2, sc, hr⟩ := cmpT_ex hg
    have key : ∀ {v : V} {x : D} {z : V}, Is T W H v x → flatD x = some z → v = z := by
      intro v x z hx hz
      cases hx <;> cases hz <;> rfl
    obtain rfl := key ha e1
    obtain rfl := key hb e2
    rw [hRb] at hr
    cases neg with
    | false => exact op_eq pins st σ H _ _ _ _ Q I rx ry ⟨sc, q _ _ H hr (Up.refl _) hI .bl⟩
    | true => exact op_ne pins st σ H _ _ _ _ Q I rx ry ⟨sc, q _ _ H hr (Up.refl _) hI .bl⟩
theorem op_eqT (B : EqsB T X.prog X.w X.K X.mg X.base k s) (n : Nat) (hr : Room (k + 2 + n) X.A) : Op2 T X W (compareOp .Eq) (eqT s n) := op_top (neg := false) B n hr
theorem op_neT (B : EqsB T X.prog X.w X.K X.mg X.base k s) (n : Nat) (hr : Room (k + 2 + n) X.A) : Op2 T X W (compareOp .NotEq) (neT s n) := op_top (neg := true) B n hr
end
end Uv
set_option Elab.async false
set_option linter.all false
set_option maxRecDepth 100000
set_option maxHeartbeats 4000000
namespace PySem
open Sem (wp)
open Builtin
open Builtin.List
section
variable {prog : Program} {w : World} {A : Around} {R : Result → Shared → Prop} {E : Value → Shared → Prop}
abbrev GoesOn (prog : Program) (w : World) (A : Around) (R : Result → Shared → Prop) : Fin → Shared → Prop := fun fin s' => match fin with | .done f => R (.ok f) s' | .again c' => c'.quiet = true ∧ codeAny (model prog w) A c' R s'
abbrev ListAt (s : Shared) (a : Addr) (xs : Array Value) (c : Nat) : Prop := s.heap.get? a = some { cls := .type "list", data := .seq xs c }
/-- the texts of a list's items are gathered in the list at G -/
structure Gath (prog : Program) (w : World) (A : Around) (E : Value → Shared → Prop) (a G : Addr) (m : Nat) (ts : List Str) (J : Nat → Shared → Prop) : Prop where
  rd : ∀ i s, J i s → ∃ xs c ys c2 dn, ListAt s a xs c ∧ xs.size = m ∧ ListAt s G ys c2 ∧ ys.toList = strValues dn ∧ dn.map (·.1) = ts.take i
  turn : ∀ i s xs c, J i s → ListAt s a xs c → ∀ (h : i < xs.size) (t : Str), ts[i]? = some t → ∀ (b : Nat) (more : List Value), b + t.length ≤ sizeLine → wpAny (model prog w) (A.under (.builtin "list.__repr__.loop" ⟨.ref a :: more, []⟩)) (pyReprUnder b xs[i]) (fun t' s' => t' = t ∧ J i s') E s
  push : ∀ i s t tk n, J i s → ts[i]? = some t → J (i + 1) { s with heap := s.heap.update G (Obj.mapSeq (·.push (.str t tk))), toks := n }
  tok : ∀ i s n, J i s → J i { s with toks := n }
theorem textsGath {a G : Addr} {m : Nat} {ts : List Str} {J : Nat → Shared → Prop} (g : Gath prog w A (fun e s' => R (.error e) s') a G m ts J) (hl : ts.length = m) {base : Nat} (hz : base + (listText ts).length ≤ sizeLine)
    (fin : ∀ s u, J m s → R (.ok (.ret (.str (listText ts) u))) s) : ∀ (k i : Nat) (s : Shared), m - i = k → i ≤ m → J i s →
      codeAny (model prog w) A (.builtin "list.__repr__.loop" ⟨[.ref a, rawInt i, .ref G, rawInt ((base + piled (ts.take i) : Nat) : Int)], []⟩) R s := by
  have whole : (listText ts).length = (textFrom 0 "[" ts).length + 1 := by
    show (textFrom 0 "[" ts ++ "]").length = _
    rw [strLen_append]
    rfl
  have lens := textFrom_len ts 0 "["
  have few : m ≤ sizeLine := by
    have q := lens.1
    rw [if_neg (Nat.lt_irrefl 0)] at q
    omega
  have each : ∀ t ∈ ts, t.length ≤ sizeLine := fun t ht => by
    have q := lens.2.1 t ht
    omega
  have pl := piled_le_listText ts
  have fits : (listText ts).length ≤ sizeLine := by omega
  intro k
  induction k with
  | zero =>
    intro i s hk hi j
    have last : i = m := by omega
    obtain ⟨xs, c, ys, c2, dn, e1, n1, e2, e3, e4⟩ := g.rd i s j
    refine codeAny_builtin F.entry_list_repr_loop ?_
    show wpAny _ _ («list.__repr__.loop» ⟨[.ref a, .int i 0, .ref G, .int ((base + piled (ts.take i) : Nat) : Int) 0], []⟩) _ _ s
    rw [repr_loop_tree]
    refine wpAny_bind (wpAny_listItems e1 rfl ?_)
    have no : xs[(i : Int).toNat]? = none := by simp [last, n1]
    simp only [no]
    unfold reprEnd
    refine wpAny_bind (wpAny_listItems e2 rfl ?_)
    rw [e3, repr_fold]
    refine wpAny_bind (wpAny_pure ?_)
    have all : dn.map (·.1) = ts := by rw [e4, last, ← hl, List.take_length]
    rw [all]
    refine wpAny_bind (wpAny_mkStr (wpAny_pure ?_) fits)
    exact fin _ _ (last ▸ g.tok i s _ j)
  | succ k ih =>
    intro i s hk hi j
    obtain ⟨xs, c, ys, c2, dn, e1, n1, e2, e3, e4⟩ := g.rd i s j
    have lt : i < xs.size := by omega
    have lt2 : i < ts.length := by omega
    obtain ⟨t, et⟩ : ∃ t, ts[i]? = some t := ⟨_, List.getElem?_eq_getElem lt2⟩
    have p1 := piled_take_succ et
    have p2 := piled_take_le ts (i + 1)
    refine codeAny_builtin F.entry_list_repr_loop ?_
    show wpAny _ _ («list.__repr__.loop» ⟨[.ref a, .int i 0, .ref G, .int ((base + piled (ts.take i) : Nat) : Int) 0], []⟩) _ _ s
    rw [repr_loop_tree]
    refine wpAny_bind (wpAny_listItems e1 rfl ?_)
    have it : xs[(i : Int).toNat]? = some xs[i] := by simp [lt]
    simp only [it]
    rw [Int.toNat_natCast]
    refine wpAny_bind (wpAny_holding (wpAny_mono (g.turn i s xs c j e1 lt t et (base + piled (ts.take i) + 1) _ (by omega)) (fun t' s' q => ?_) fun _ _ e => e))
    obtain ⟨rfl, j'⟩ := q
    obtain ⟨xs', c', ys', c2', dn', e1', n1', e2', e3', e4'⟩ := g.rd i s' j'
    refine wpAny_bind (wpAny_mkStr ?_ (each _ (List.mem_of_getElem? et)))
    refine wpAny_bind ?_
    show wpAny _ _ (updateSeq G _) _ _ _
    have sz : ys'.size ≤ sizeLine := by
      have z1 : ys'.toList.length = ys'.size := by simp
      have z2 : (strValues dn').length = dn'.length := by simp [strValues]
      have z3 : dn'.length = (ts.take i).length := by rw [← e4', List.length_map]
      have z4 : (ts.take i).length ≤ i := by rw [List.length_take]; omega
      rw [e3'] at z1
      omega
    refine wpAny_updateSeq e2' rfl (wpAny_pure ⟨F.quiet_list_repr_loop _, ?_⟩) sz
    have nx : ((i : Int) + 1) = ((i + 1 : Nat) : Int) := by omega
    have nb : base + piled (ts.take i) + (t'.length + 2) = base + piled (ts.take (i + 1)) := by omega
    rw [nx, nb]
    exact ih (i + 1) _ (by omega) (by omega) (g.push i s' t' s'.toks (s'.toks + 1) j' et)
variable {s : Shared}
theorem listReprJ {a : Addr} {xs : Array Value} {c m : Nat} {gs : List Code} {ts : List Str} {J : Nat → Shared → Prop} (hg : A.guards = some gs) (hno : ∀ v more kw, Code.builtin "list.__repr__.loop" ⟨v :: more, kw⟩ ∈ gs → Builtin.List.listSameRef v (.ref a) = false)
    (e : ListAt s a xs c) (hx : xs.size = m) (hm : 0 < m) (g : Gath prog w A (fun e s' => R (.error e) s') a s.heap.objs.size m ts J) (hl : ts.length = m) {base : Nat} (hz : base + (listText ts).length ≤ sizeLine)
    (start : J 0 { s with heap := s.heap.push { cls := .type "list", data := .seq #[] } }) (fin : ∀ s u, J m s → R (.ok (.ret (.str (listText ts) u))) s) :
    wpAny (model prog w) A.in1 (Builtin.listReprAt base ⟨[.ref a], []⟩) (GoesOn prog w A R) (fun e s' => R (.error e) s') s := by
  obtain ⟨its⟩ := xs
  cases its with
  | nil =>
    simp at hx
    omega
  | cons x l =>
    refine wpAny_list_repr_head (A := A.in1) hg hno e rfl ?_
    refine wpAny_bind (m := newList []) (wpAny_newObj_type (wpAny_pure ⟨F.quiet_list_repr_loop _, ?_⟩))
    have go := textsGath (A := A) (R := R) g hl hz fin (m - 0) 0 _ rfl (Nat.zero_le _) start
    exact go
/-- .. inside another text -/
theorem underListJ {a : Addr} {base : Nat} {ts : List Str} {Q : Str → Shared → Prop} {xs : Array Value} {c : Nat} (e : ListAt s a xs c) (hu : A.units < cLine) (hz : base + (listText ts).length ≤ sizeLine)
    (h : wpAny (model prog w) A.in1 (Builtin.listReprAt base ⟨[.ref a], []⟩) (GoesOn prog w A (callEnd (fun v s' => (∃ x u, v = .str x u) ∧ ∃ x u, v = .str x u ∧ Q x s') E)) (fun e s' => callEnd (fun v s' => (∃ x u, v = .str x u) ∧ ∃ x u, v = .str x u ∧ Q x s') E (.error e) s') s) :
    wpAny (model prog w) A (pyReprUnder base (.ref a)) Q E s := by
  have hb : base ≤ sizeLine := by omega
  refine wpAny_pyReprUnder_ref hb (wpAny_pyReprObjUnder_twin (T := "list") (twin := "list.__repr__.under") ⟨_, e, rfl⟩ F.slot_list_repr.toG rfl hu ?_)
  exact call_twin_plain F.plain_list_repr_under F.entry_list_repr_under F.check_list_repr_under ⟨_, e, rfl⟩ F.slot_list_repr.toG (F.args_list_repr_1 _) h
/-- .. by repr(x) -/
theorem callListJ {a : Addr} {Q : Value → Shared → Prop} {xs : Array Value} {c : Nat} (e : ListAt s a xs c) (hu : A.units + 1 < cLine)
    (h : wpAny (model prog w) A.in1.in1 (Builtin.listReprAt 0 ⟨[.ref a], []⟩) (GoesOn prog w A.in1 (callEnd (fun v s' => ∃ x u, v = .str x u ∧ Q v s') E)) (fun e s' => callEnd (fun v s' => ∃ x u, v = .str x u ∧ Q v s') E (.error e) s') s) :
    wpAny (model prog w) A (call (.builtin "repr") [.ref a]) Q E s :=
  call_repr_slot hu ⟨_, e, rfl⟩ F.slot_list_repr.toG (wpAny_call (codeAny_call_builtin F.slot_list_repr.plain F.entry_list_repr (F.slot_list_repr.check _ _ _ _ _ _ _ _ ⟨_, e, rfl⟩ (F.args_list_repr_1 _) h)))
/-- empty lists -/
theorem underNilJ {a : Addr} {base : Nat} {Q : Str → Shared → Prop} {c : Nat} (e : ListAt s a #[] c) (hu : A.units < cLine) (hb : base ≤ sizeLine) (h : ∀ n, Q "[]" { s with toks := n }) : wpAny (model prog w) A (pyReprUnder base (.ref a)) Q E s :=
  wpAny_pyReprUnder_ref hb (wpAny_pyReprObjUnder_list_empty ⟨_, e, rfl⟩ hu e rfl ⟨_, _, rfl, h _⟩)
/-- an instance's own text -/
theorem underOwnJ {K : PySem.W.Frag} {x C f : Addr} {ox : Obj} {od : Option Obj} {base : Nat} {Q : Str → Shared → Prop} (hu : A.units < cLine) (hb : base ≤ sizeLine) (Y : K.In s.heap) (I : PySem.W.InstAt s.heap x ox C od) (hs : PySem.W.findIn K (.ref C) "__repr__" = some (some (.ref f))) (hf : PySem.W.isFn K (.ref f) = true)
    (h : wpAny (model prog w) A (call (.ref f) [.ref x]) (fun v s' => ∃ t u, v = .str t u ∧ Q t s') E s) : wpAny (model prog w) A (pyReprUnder base (.ref x)) Q E s := by
  refine wpAny_pyReprUnder_ref hb ?_
  unfold pyReprObjUnder pyReprObjBy
  refine wpAny_bind (wpAny_cRoomFor hu ?_)
  refine wpAny_bind (wpAny_bind (I.type.here ((PySem.W.looks_findIn Y hs).here ?_)))
  show wpAny _ _ (if (some (Value.ref f)).isNone = true then _ else _) _ _ _
  rw [if_neg (by simp)]
  refine wpAny_bind ?_
  simp only [callSpecialIfBoundBy?, bindSpecialIfBound?]
  refine wpAny_holding (wpAny_bind (wpAny_bind (wpAny_bind (I.type.here ((PySem.W.looks_findIn Y hs).here ?_)))))
  have last : wpAny (model prog w) A (call (.ref f) ([.ref x] ++ []) >>= fun v => pure (some v)) (fun r s' => ∃ v t u, r = some v ∧ v = .str t u ∧ Q t s') E s := by
    refine wpAny_bind (wpAny_mono h (fun v s' q => ?_) fun _ _ e => e)
    obtain ⟨t, u, rfl, q⟩ := q
    exact wpAny_pure ⟨_, t, u, rfl, rfl, q⟩
  have fin : ∀ (r : Option Value) (s' : Shared), (∃ v t u, r = some v ∧ v = .str t u ∧ Q t s') → wpAny (model prog w) A (match r with
      | some r => do if ← isInstance r (.type "str") then pure r else raiseError "TypeError" s!"__repr__ returned non-string (type {← typeNameOf r})"
      | none => unsupported "repr:special-get-raises") (fun v s' => ∃ t u, v = .str t u ∧ Q t s') E s' := by
    rintro r s' ⟨v, t, u, rfl, rfl, q⟩
    exact wpAny_bind (wpAny_isInstance (T := "str") (b := true) rfl isSubtype_str_str (wpAny_pure ⟨t, u, rfl, q⟩))
  refine wpAny_bind (wpAny_askSetting (wpAny_ite ?_))
  have out : wpAny (model prog w) A (call (.ref f) ([.ref x] ++ []) >>= fun v => pure (some v)) (fun r s' => wpAny (model prog w) A (match r with
      | some r => do if ← isInstance r (.type "str") then pure r else raiseError "TypeError" s!"__repr__ returned non-string (type {← typeNameOf r})"
      | none => unsupported "repr:special-get-raises") (fun v s' => ∃ t u, v = .str t u ∧ Q t s') E s') E s := wpAny_mono last fin fun _ _ e => e
  split
  · exact wpAny_bind ((PySem.W.bind_fn Y _ (beq_iff_eq.mp hf)).here (wpAny_pure (by exact out)))
  · exact wpAny_tryCatch (wpAny_bind ((PySem.W.bind_fn Y _ (beq_iff_eq.mp hf)).here (wpAny_pure (by exact out))))
end
end PySem
set_option Elab.async false
set_option linter.all false
set_option maxRecDepth 100000
set_option maxHeartbeats 4000000
namespace PySem
open Sem (wp)
open Builtin
section
variable {prog : Program} {w : World} {A : Around} {R : Result → Shared → Prop} {E : Value → Shared → Prop} {s : Shared}
inductive TurnsT (prog : Program) (w : World) (A : Around) (E : Value → Shared → Prop) (J : Shared → Prop) : List Value → List Str → Prop
  | nil : TurnsT prog w A E J [] []
  | cons {x : Value} {t : Str} {l : List Value} {ts : List Str} (h : ∀ b s, J s → b + t.length ≤ sizeLine → wpAny (model prog w) A (pyReprUnder b x) (fun t' s' => t' = t ∧ J s') E s) (r : TurnsT prog w A E J l ts) : TurnsT prog w A E J (x :: l) (t :: ts)
theorem TurnsT.len {J : Shared → Prop} : ∀ {l : List Value} {ts : List Str}, TurnsT prog w A E J l ts → ts.length = l.length
  | _, _, .nil => rfl
  | _, _, .cons _ r => congrArg Nat.succ r.len
theorem tupFoldJ {J : Shared → Prop} : ∀ (l : List Value) (ts : List Str) (acc : Array Str) (n : Nat) (s : Shared) (Q : (Array Str × Nat) → Shared → Prop), TurnsT prog w A E J l ts → n + piled ts ≤ sizeLine → J s →
    (∀ s', J s' → Q ⟨acc ++ ts.toArray, n + piled ts⟩ s') → wpAny (model prog w) A (forIn l (⟨acc, n⟩ : (Array Str × Nat)) tupBody) Q E s := by
  intro l
  induction l with
  | nil =>
    intro ts acc n s Q hT _ j h
    cases hT
    have z := h s j
    simp only [List.forIn_nil]
    exact wpAny_pure (by simpa [piled] using z)
  | cons x l ih =>
    intro ts acc n s Q hT hn j h
    cases hT with
    | @cons _ t _ us hx hl =>
      rw [piled_cons] at hn
      rw [List.forIn_cons]
      refine wpAny_bind (wpAny_bind (wpAny_mono (hx (n + 1) s j (by omega)) (fun t' s' q => ?_) fun _ _ e => e))
      obtain ⟨rfl, j'⟩ := q
      refine wpAny_pure (ih us (acc.push t') (n + (t'.length + 2)) s' Q hl (by omega) j' fun s2 j2 => ?_)
      have z := h s2 j2
      rw [show n + piled (t' :: us) = n + (t'.length + 2) + piled us by rw [piled_cons]; omega] at z
      simpa using z
theorem tupReprJ {a : Addr} {o : Obj} {items : Array Value} {n : Nat} {ts : List Str} {J : Shared → Prop} {gs : List Code} {base : Nat} {id : String} {more : List Value}
    (ha : s.heap.get? a = some o) (hd : o.data = .seq items n) (hg : A.guards = some gs) (hno : ∀ c ∈ gs, tupGuardF (.ref a) (c, default) = false)
    (hT : TurnsT prog w (A.under (.builtin id ⟨.ref a :: more, []⟩)) (fun e s' => R (.error e) s') J items.toList ts) (j : J s)
    (fin : ∀ s' u, J s' → R (.ok (.ret (.str (tupleText ts) u))) { s' with toks := s'.toks + 1 }) (hz : base + (tupleText ts).length ≤ sizeLine) :
    wpOwn (model prog w) A (.builtin id ⟨.ref a :: more, []⟩) (Builtin.tupleReprAt base ⟨[.ref a], []⟩) (GoesOn prog w A R) (fun e s' => R (.error e) s') s := by
  have hlen : ts.length = items.size := by simpa using hT.len
  have hp := piled_le_tupleText ts
  have fits : (tupleText ts).length ≤ sizeLine := by omega
  rw [tuple_repr_tree, tupleReprUnderWay_eq]
  refine wpOwn_bind (wpOwn_stackTailAny hg (tupGuardF_off _) (tupGuardF_pos _) ?_)
  have none : (gs.any fun c => tupGuardF (.ref a) (c, default)) = false := by
    rw [List.any_eq_false]
    intro c hc
    rw [hno c hc]
    exact Bool.false_ne_true
  rw [none]
  refine wpOwn_of_wpAny ?_
  show wpAny _ _ (tupleReprRest base (.ref a)) _ _ s
  unfold tupleReprRest Builtin.Tuple.tupleItemsOf
  refine wpAny_bind (wpAny_bind (wpAny_seqItems ha hd (wpAny_pure ?_)))
  rw [← Array.forIn_toList]
  refine wpAny_bind (tupFoldJ _ ts _ _ _ _ hT (by omega) j fun s' j' => ?_)
  refine wpAny_bind (wpAny_mkStr (wpAny_pure ?_) (by simpa [tupleText, hlen] using fits))
  have z := fin s' s'.toks j'
  simpa [tupleText, hlen] using z
theorem underTupJ {a : Addr} {o : Obj} {base : Nat} {ts : List Str} {Q : Str → Shared → Prop} (ha : s.heap.get? a = some o) (hc : o.cls = .type "tuple") (hu : A.units < cLine) (hz : base + (tupleText ts).length ≤ sizeLine)
    (h : wpOwn (model prog w) A (.builtin "tuple.__repr__.under" ⟨[.ref a, rawInt base], []⟩) (Builtin.tupleReprAt base ⟨[.ref a], []⟩) (GoesOn prog w A (callEnd (fun v s' => (∃ x u, v = .str x u) ∧ ∃ x u, v = .str x u ∧ Q x s') E)) (fun e s' => callEnd (fun v s' => (∃ x u, v = .str x u) ∧ ∃ x u, v = .str x u ∧ Q x s') E (.error e) s') s) :
    wpAny (model prog w) A (pyReprUnder base (.ref a)) Q E s := by
  have hb : base ≤ sizeLine := by omega
  refine wpAny_pyReprUnder_ref hb (wpAny_pyReprObjUnder_twin (T := "tuple") (twin := "tuple.__repr__.under") ⟨o, ha, hc⟩ F.slot_tuple_repr rfl hu ?_)
  exact call_twin_own (F.quiet_tuple_repr_under _) F.entry_tuple_repr_under F.check_tuple_repr_under ⟨o, ha, hc⟩ F.slot_tuple_repr (F.args_tuple_repr_1 _) h
theorem callTupJ {a : Addr} {o : Obj} {Q : Value → Shared → Prop} (ha : s.heap.get? a = some o) (hc : o.cls = .type "tuple") (hu : A.units + 1 < cLine)
    (h : wpOwn (model prog w) A.in1 (.builtin "tuple.__repr__" ⟨[.ref a], []⟩) (Builtin.tupleReprAt 0 ⟨[.ref a], []⟩) (GoesOn prog w A.in1 (callEnd (fun v s' => ∃ x u, v = .str x u ∧ Q v s') E)) (fun e s' => callEnd (fun v s' => ∃ x u, v = .str x u ∧ Q v s') E (.error e) s') s) :
    wpAny (model prog w) A (call (.builtin "repr") [.ref a]) Q E s :=
  call_repr_slot hu ⟨o, ha, hc⟩ F.slot_tuple_repr (wpAny_call (codeAny_call_builtin_own (Code.quiet_builtin _ (by decide +kernel)) F.entry_tuple_repr (F.slot_tuple_repr.check _ _ _ _ _ _ _ _ ⟨o, ha, hc⟩ (F.args_tuple_repr_1 _) h)))
end
end PySem
set_option Elab.async false
set_option linter.all false
set_option maxRecDepth 100000
set_option maxHeartbeats 4000000
namespace Uv
open PySem L2 Inn PySem.Spec PyProof.Rows
/-! ### texts -/
mutual
def dep : D → Nat
  | .lst l => depL l + 1
  | .tup l => depL l + 1
  | .dct _ l => depL l + 1
  | .ins _ l => depL l + 1
  | _ => 0
def depL : List D → Nat
  | [] => 0
  | d :: ds => max (dep d) (depL ds)
end
mutual
/-- neither pots nor values of no kind -/
def pur : D → Bool
  | .lst l => purL l
  | .tup l => purL l
  | .dct _ l => purL l
  | .ins _ l => purL l
  | .pot _ => false
  | .cls _ => false
  | .knw _ => false
  | _ => true
def purL : List D → Bool
  | [] => true
  | d :: ds => pur d && purL ds
end
section
variable {T : Ct} {N P : Addr → Prop} {H : Hp}
mutual
theorem IsD.one (inj : ∀ c c', c < T.n → c' < T.n → T.at_ c = T.at_ c' → c = c') : ∀ {v : V} {d : D} {d' : D}, IsD T N P H v d → pur d = true → IsD T N P H v d' → pur d' = true → d = d'
  | _, _, _, .int, _, h', p' => by cases h' with | int => rfl | cls => cases p'
  | _, _, _, .bl, _, h', p' => by cases h' with | bl => rfl | cls => cases p'
  | _, _, _, .str, _, h', p' => by cases h' with | str => rfl | cls => cases p'
  | _, _, _, .non, _, h', p' => by cases h' with | non => rfl | cls => cases p'
  | _, _, _, .lst n e h, p, h', p' => by
    cases h' with
    | lst n2 e2 h2 =>
      rw [e] at e2
      injection e2 with e2
      injection e2 with e2
      subst e2
      rw [IsDs.one inj h p h2 p']
    | tup n2 e2 _ => rw [e] at e2; cases e2
    | dct n2 e2 _ _ => rw [e] at e2; cases e2
    | ins _ n2 e2 _ _ => rw [e] at e2; cases e2
    | pot => cases p'
    | cls => cases p'
    | knw => cases p'
  | _, _, _, .tup n e h, p, h', p' => by
    cases h' with
    | tup n2 e2 h2 =>
      rw [e] at e2
      injection e2 with e2
      injection e2 with e2
      subst e2
      rw [IsDs.one inj h p h2 p']
    | lst n2 e2 _ => rw [e] at e2; cases e2
    | dct n2 e2 _ _ => rw [e] at e2; cases e2
    | ins _ n2 e2 _ _ => rw [e] at e2; cases e2
    | pot => cases p'
    | cls => cases p'
    | knw => cases p'
  | _, _, _, .dct n e hk h, p, h', p' => by
    cases h' with
    | dct n2 e2 hk2 h2 =>
      rw [e] at e2
      injection e2 with e2
      injection e2 with e2
      subst e2
      subst hk hk2
      rw [IsDs.one inj h p h2 p']
    | lst n2 e2 _ => rw [e] at e2; cases e2
    | tup n2 e2 _ => rw [e] at e2; cases e2
    | ins _ n2 e2 _ _ => rw [e] at e2; cases e2
    | pot => cases p'
    | cls => cases p'
    | knw => cases p'
  | _, _, _, .ins hc n e hl h, p, h', p' => by
    cases h' with
    | ins hc2 n2 e2 hl2 h2 =>
      rw [e] at e2
      injection e2 with e2
      injection e2 with e3 e4 e5
      have ec := inj _ _ hc hc2 e3
      subst ec
      have eu := zip_inj hl hl2 e5
      subst eu
      rw [IsDs.one inj h p h2 p']
    | lst n2 e2 _ => rw [e] at e2; cases e2
    | tup n2 e2 _ => rw [e] at e2; cases e2
    | dct n2 e2 _ _ => rw [e] at e2; cases e2
    | pot => cases p'
    | cls => cases p'
    | knw => cases p'
  | _, _, _, .pot _, p, _, _ => by cases p
  | _, _, _, .cls, p, _, _ => by cases p
  | _, _, _, .knw _, p, _, _ => by cases p
theorem IsDs.one (inj : ∀ c c', c < T.n → c' < T.n → T.at_ c = T.at_ c' → c = c') : ∀ {vs : List V} {ds ds' : List D}, IsDs T N P H vs ds → purL ds = true → IsDs T N P H vs ds' → purL ds' = true → ds = ds'
  | _, _, _, .nil, _, h', _ => by cases h'; rfl
  | _, _, _, .cons h t, p, h', p' => by
    cases h' with | cons h2 t2 =>
    unfold purL at p p'
    rw [Bool.and_eq_true] at p p'
    rw [IsD.one inj h p.1 h2 p'.1, IsDs.one inj t p.2 t2 p'.2]
end
end
abbrev OwnT := Nat → List D → Option Str
def mapT (f : D → Option Str) : List D → Option (List Str)
  | [] => some []
  | d :: ds => match f d, mapT f ds with
    | some t, some ts => some (t :: ts)
    | _, _ => none
def txt0 (own : OwnT) : D → Option Str
  | .int i => if i.natAbs.log2 < 1920 then some (toString i : String) else none
  | .bl b => some (if b then "True" else "False" : String)
  | .non => some "None"
  | .str x => some (reprText x)
  | .ins c l => if purL l = true then own c l else none
  | _ => none
def txt1 (own : OwnT) (f : D → Option Str) : D → Option Str
  | .lst l => (mapT f l).map listText
  | .tup l => (mapT f l).map tupleText
  | .dct [] [] => some (dictText [])
  | d => txt0 own d
def txtD (own : OwnT) : Nat → D → Option Str
  | 0 => txt0 own
  | n + 1 => txt1 own (txtD own n)
theorem mapT_len {f : D → Option Str} : ∀ {l : List D} {ts : List Str}, mapT f l = some ts → ts.length = l.length
  | [], _, h => by cases h; rfl
  | d :: ds, ts, h => by
    unfold mapT at h
    split at h
    · cases h
      rename_i e
      rw [List.length_cons, List.length_cons, mapT_len e]
    · cases h
theorem mapT_get {f : D → Option Str} : ∀ {l : List D} {ts : List Str} {i : Nat} {d : D} {t : Str}, mapT f l = some ts → l[i]? = some d → ts[i]? = some t → f d = some t
  | [], _, _, _, _, _, hd, _ => by simp at hd
  | x :: xs, ts, i, d, t, h, hd, ht => by
    unfold mapT at h
    split at h
    · rename_i u us e1 e2
      cases h
      cases i with
      | zero =>
        simp at hd ht
        subst hd ht
        exact e1
      | succ i => exact mapT_get e2 (by simpa using hd) (by simpa using ht)
    · cases h
theorem pur_of0 {own : OwnT} {d : D} {t : Str} (h : txt0 own d = some t) : pur d = true := by
  cases d with
  | ins c l =>
    have h : (if purL l = true then own c l else none) = some t := h
    split at h
    · assumption
    · cases h
  | int => rfl
  | bl => rfl
  | non => rfl
  | str => rfl
  | _ => cases h
theorem purL_ofM {f : D → Option Str} (hf : ∀ {d t}, f d = some t → pur d = true) : ∀ {l : List D} {ts : List Str}, mapT f l = some ts → purL l = true
  | [], _, _ => rfl
  | d :: ds, ts, h => by
    unfold mapT at h
    split at h
    · rename_i e1 e2
      unfold purL
      rw [hf e1, purL_ofM hf e2]
      rfl
    · cases h
theorem pur_of {own : OwnT} : ∀ {n : Nat} {d : D} {t : Str}, txtD own n d = some t → pur d = true
  | 0, _, _, h => pur_of0 h
  | n + 1, d, t, h => by
    have h : txt1 own (txtD own n) d = some t := h
    unfold txt1 at h
    split at h
    · cases e : mapT (txtD own n) _ with
      | none => rw [e] at h; cases h
      | some ts => exact purL_ofM (fun h => pur_of h) e
    · cases e : mapT (txtD own n) _ with
      | none => rw [e] at h; cases h
      | some ts => exact purL_ofM (fun h => pur_of h) e
    · rfl
    · exact pur_of0 h
theorem dep_mem {l : List D} {d : D} (h : d ∈ l) : dep d ≤ depL l := by
  induction l with
  | nil => cases h
  | cons x xs ih =>
    unfold depL
    rcases List.mem_cons.mp h with rfl | h
    · exact Nat.le_max_left _ _
    · exact Nat.le_trans (ih h) (Nat.le_max_right _ _)
end Uv
set_option Elab.async false
set_option linter.all false
set_option maxRecDepth 100000
set_option maxHeartbeats 4000000
namespace Uv
open PySem L2 Inn PySem.Spec PyProof.Rows
/-- own texts -/
structure TxtB (T : Ct) (P : Program) (w : World) (K : PySem.W.Frag) (mg : Str → Option Value) (base : Heap) (k : Nat) (own : OwnT) : Prop where
  all : ∀ c, c < T.n → (∀ l, own c l = none) ∨ ∃ f fd ps b, PySem.W.findIn K (.ref (T.at_ c)) "__repr__" = some (some (.ref f)) ∧ PySem.W.isFn K (.ref f) = true ∧ FnOk P w K mg base CX0 k f fd ps (SpD T b 1 (fun ds R => ∃ l t, ds = [.ins c l] ∧ own c l = some t ∧ R (.str t))) ∧ L2.Binds K fd ps []
  inj : ∀ c c', c < T.n → c' < T.n → T.at_ c = T.at_ c' → c = c'
/-- the lists whose texts are being made are deeper than d -/
def Gd (T : Ct) (W : Wo) (H : Hp) (n : Nat) (g : List Code) : Prop := ∀ id v more kw, Code.builtin id ⟨v :: more, kw⟩ ∈ g → ∀ b, v = .ref b → ∃ db, pur db = true ∧ Is T W H (.ref b) db ∧ n < dep db
section
variable {T : Ct} {X : Cx} {k n : Nat} {own : OwnT}
theorem Gd.nil {W : Wo} {H : Hp} {n : Nat} : Gd T W H n [] := fun _ _ _ _ h => nomatch h
theorem Gd.conv {W W' : Wo} {H H' : Hp} {n m : Nat} {g : List Code} (h : Gd T W H n g) (hm : m ≤ n) (k : ∀ {v d}, Is T W H v d → Is T W' H' v d) : Gd T W' H' m g := fun id v more kw hc b hb => by
  obtain ⟨db, p, i, l⟩ := h id v more kw hc b hb
  exact ⟨db, p, k i, Nat.lt_of_le_of_lt hm l⟩
theorem Gd.clear {W : Wo} {H : Hp} {d : D} {p : Addr} {g : List Code} (inj : ∀ c c', c < T.n → c' < T.n → T.at_ c = T.at_ c' → c = c') (h : Gd T W H (dep d) g) (hd : Is T W H (.ref p) d) (hp : pur d = true) : Clear g p := fun id v more kw hc e => by
  obtain ⟨db, p', i, l⟩ := h id v more kw hc p e
  rw [IsD.one inj i p' hd hp] at l
  exact Nat.lt_irrefl _ l
theorem Gd.cons {W : Wo} {H : Hp} {d : D} {p : Addr} {m : Nat} {g : List Code} {id : String} {more : List Value} (h : Gd T W H m g) (hd : Is T W H (.ref p) d) (hp : pur d = true) (hm : m < dep d) : Gd T W H m (.builtin id ⟨.ref p :: more, []⟩ :: g) := fun id' v' more' kw' hc b hb => by
  rcases List.mem_cons.mp hc with e | hc
  · cases e
    cases hb
    exact ⟨d, hp, hd, hm⟩
  · exact h id' v' more' kw' hc b hb
def TxO (X : Cx) (W : Wo) (pins : List (Addr × Obj)) (σ : L2.St) (H : Hp) (t t' : Str) (s' : Shared) : Prop := t' = t ∧ ∃ H', Inv X pins σ H' s' ∧ Up W.toWld H H' ∧ W.I H'
def RunT (T : Ct) (X : Cx) (k : Nat) (f : D → Option Str) : Prop :=
  ∀ (W : Wo) (A : Around) (pins : List (Addr × Obj)) (s : Shared) (σ : L2.St) (H : Hp) (v : V) (x : Value) (d : D) (t : Str) (b : Nat) (g : List Code), L2.Sub X k A → A.guards = some g → Gd T W H (dep d) g → Inv X pins σ H s → W.I H → Is T W H v d → RelV v x → f d = some t → b + t.length ≤ sizeLine →
    wpAny (model X.prog X.w) A (pyReprUnder b x) (TxO X W pins σ H t) X.xe s
theorem sub_of {A A' : Around} (sb : L2.Sub X (k + 1) A) (h1 : A'.depth ≤ A.depth + 1) (h2 : A'.units = A.units + 1) (h3 : A'.handled = A.handled) (h4 : A'.frames = A.frames) : L2.Sub X k A' :=
  ⟨⟨by rw [h3]; exact sb.room.hd, by have := sb.room.dp; omega, by rw [h2]; have := sb.room.un; omega⟩, h4.trans sb.fr⟩
theorem sub_list {A : Around} {args : Args} (sb : L2.Sub X (k + 1) A) : L2.Sub X k (A.under (.builtin "list.__repr__.loop" args)) :=
  sub_of sb (by simp [Around.under, Code.weight, Code.isCreation, Code.isGuard, Code.isCaller, Code.frames, Code.isFrame, guardIds]) (units_under_list_loop A args) rfl rfl
theorem sub_tup {A : Around} {args : Args} (sb : L2.Sub X (k + 1) A) : L2.Sub X k (A.under (.builtin "tuple.__repr__" args)) :=
  sub_of sb (by simp [Around.under, Code.weight, Code.isCreation, Code.isGuard, Code.isCaller, Code.frames, Code.isFrame, guardIds]) (units_under_tuple_repr A args) rfl rfl
theorem sub_tupU {A : Around} {args : Args} (sb : L2.Sub X (k + 1) A) : L2.Sub X k (A.under (.builtin "tuple.__repr__.under" args)) :=
  sub_of sb (by simp [Around.under, Code.weight, Code.isCreation, Code.isGuard, Code.isCaller, Code.frames, Code.isFrame, guardIds]) (units_under_tuple_repr_under A args) rfl rfl
end
end Uv
set_option Elab.async false
set_option linter.all false
set_option maxRecDepth 100000
set_option maxHeartbeats 4000000
namespace Uv
open PySem L2 Inn PySem.Spec PyProof.Rows
section
variable {T : Ct} {X : Cx} {k n : Nat} {own : OwnT}
theorem ownT_run {W : Wo} {f : Addr} {fd : FuncData} {ps : List Str} {b0 : Bool} {c : Nat} (F : FnOk X.prog X.w X.K X.mg X.base CX0 k f fd ps (SpD T b0 1 (fun ds R => ∃ l t, ds = [.ins c l] ∧ own c l = some t ∧ R (.str t)))) (hbi : L2.Binds X.K fd ps [])
    {A : Around} {pins : List (Addr × Obj)} {st : Shared} {σ : L2.St} {H : Hp} {u : V} {x : Value} {l : List D} {t : Str} (hr : Room k A) (fr : A.frames = X.A.frames) (I : Inv X pins σ H st) (hI : W.I H) (ha : Is T W H u (.ins c l)) (rx : RelV u x) (ht : own c l = some t) :
    wpAny (model X.prog X.w) A (call (.ref f) [x]) (fun z s' => ∃ tk, z = .str t tk ∧ ∃ H', Inv X pins σ H' s' ∧ Up W.toWld H H' ∧ W.I H') X.xe st := by
  have sp : SpD T b0 1 (fun ds R => ∃ l t, ds = [.ins c l] ∧ own c l = some t ∧ R (.str t)) [u] H (fun z H' => z = .str t ∧ Up W.toWld H H' ∧ W.I H') E0 :=
    ⟨W, [.ins c l], (· = .str t), .cons ha .nil, rfl, hI, ⟨l, t, rfl, ht, rfl⟩, fun d w H' hd u' i' h' _ => by
      subst hd
      cases h'
      exact ⟨rfl, u', i'⟩⟩
  have hl := F.len _ _ _ _ sp
  have e0 : Env0 X.prog X.w X.K X.mg X.base A X.stack st H := by
    have e := I.env0
    exact ⟨by rw [fr]; exact e.frames, e.mod, e.bs, e.bsz, e.funs, e.frf, e.hok, e.bare⟩
  refine wpAny_call (codeAny_mono (F.run A X.stack st H ⟨[x], []⟩ [x] [u] _ E0 hr e0 (by
    have h := hbi st [x] I.kIn (by simpa using hl)
    simpa using h) (.cons rx .nil) sp) fun rr s' hq => ?_)
  cases rr with
  | error e => exact False.elim hq
  | ok fl =>
    cases fl with
    | ret w =>
      obtain ⟨z, H', I', rz, ez, ex, iz⟩ := I.after hq
      subst ez
      obtain ⟨tk, rfl⟩ := rz
      exact ⟨tk, rfl, H', I', ex, iz⟩
    | next => exact False.elim hq
    | brk => exact False.elim hq
    | cont => exact False.elim hq
theorem runT0 (B : TxtB T X.prog X.w X.K X.mg X.base k own) : RunT T X k (txt0 own) := by
  intro W A pins s σ H v x d t b g sb hg gd I hI hv rv ht hz
  have leaf : ∀ {y : Value} {t' : Str}, ReprIs X.prog X.w y t' → t' = t → wpAny (model X.prog X.w) A (pyReprUnder b y) (TxO X W pins σ H t) X.xe s := fun h e => by
    subst e
    exact h b hz A X.xe s _ fun tk => ⟨rfl, H, I.tok tk, Up.refl _, hI⟩
  cases hv with
  | @int i =>
    obtain ⟨tk, rfl⟩ := rv
    have ht : (if i.natAbs.log2 < 1920 then some (Str.ofString (toString i)) else none) = some t := ht
    split at ht
    · rename_i hb
      exact leaf (ReprIs.int tk hb) (Option.some.inj ht)
    · cases ht
  | bl =>
    cases rv
    rename_i k2
    exact leaf (ReprIs.bool _) (by cases k2 <;> exact Option.some.inj ht)
  | non =>
    cases rv
    exact leaf ReprIs.none (Option.some.inj ht)
  | str =>
    obtain ⟨tk, rfl⟩ := rv
    exact leaf (ReprIs.str _ tk (by have e := Option.some.inj ht; rw [e]; omega)) (Option.some.inj ht)
  | @ins p dx c us l hc nM e hl hs =>
    have ht : (if purL l = true then own c l else none) = some t := ht
    split at ht
    · rcases B.all c hc with no | ⟨f, fd, ps, b0, e1, e2, F, hbi⟩
      · rw [no] at ht
        cases ht
      · cases rv
        obtain ⟨mA, J, _⟩ := ins_get I.hok e
        obtain ⟨od, J, _⟩ := J.look
        refine underOwnJ sb.room.units0 (by omega) I.kIn J e1 e2 (wpAny_mono (ownT_run (W := W) F hbi sb.room sb.fr I hI (.ins hc nM e hl hs) rfl ht) (fun z s' q => ?_) fun _ _ e => e)
        obtain ⟨tk, rfl, H', I', u', i'⟩ := q
        exact ⟨t, tk, rfl, rfl, H', I', u', i'⟩
    · cases ht
  | _ => cases ht
theorem vals_strs : ∀ {ts : List Str} {its : List Value}, Vals (ts.map V.str) its → ∃ dn, its = strValues dn ∧ dn.map (·.1) = ts
  | [], _, h => by cases h; exact ⟨[], rfl, rfl⟩
  | t :: ts, _, h => by
    cases h with | cons r h =>
    obtain ⟨tk, rfl⟩ := r
    obtain ⟨dn, rfl, e⟩ := vals_strs h
    exact ⟨(t, tk) :: dn, rfl, by rw [List.map_cons, e]⟩
theorem vals_push {vs : List V} {its : List Value} (h : Vals vs its) {t : Str} {tk : Tok} : Vals (vs ++ [.str t]) (its ++ [.str t tk]) := by
  induction h with
  | nil => exact .cons ⟨tk, rfl⟩ .nil
  | cons r _ ih => exact .cons r ih
/-- while the texts of l's items are gathered in the list at G -/
structure GJ (T : Ct) (X : Cx) (W : Wo) (pins : List (Addr × Obj)) (σ : L2.St) (H : Hp) (G : Addr) (ts : List Str) (i : Nat) (s' : Shared) : Prop where
  ex : ∃ H', Inv X pins σ H' s' ∧ Up W.toWld H H' ∧ W.I H' ∧ H' G = some (.lst ((ts.take i).map V.str))
theorem gath {f : D → Option Str} (hf : RunT T X k f) {W : Wo} {A : Around} {pins : List (Addr × Obj)} {s : Shared} {σ : L2.St} {H : Hp} {p : Addr} {us : List V} {l : List D} {g : List Code} {ts : List Str}
    (inj : ∀ c c', c < T.n → c' < T.n → T.at_ c = T.at_ c' → c = c') (sb : L2.Sub X (k + 1) A) (hg : A.guards = some g) (gd : Gd T W H (dep (.lst l)) g) (I : Inv X pins σ H s) (hI : W.I H) (nM : ¬ W.M p) (e : H p = some (.lst us)) (hs : Iss T W H us l) (ht : mapT f l = some ts) (hp : purL l = true) :
    Gath X.prog X.w A X.xe p s.heap.objs.size l.length ts (GJ T X W pins σ H s.heap.objs.size ts) := by
  have hG : H s.heap.objs.size = none := I.hok.fresh (Nat.le_refl _)
  have nG : ¬ W.M s.heap.objs.size := not_M hI hG
  have ne : p ≠ s.heap.objs.size := fun z => by rw [z, hG] at e; cases e
  have hlen := mapT_len ht
  have read : ∀ i s', GJ T X W pins σ H s.heap.objs.size ts i s' → ∃ its c its2 c2 dn, ListAt s' p (its : List Value).toArray c ∧ Vals us its ∧ ListAt s' s.heap.objs.size (its2 : List Value).toArray c2 ∧ its2 = strValues dn ∧ dn.map (·.1) = ts.take i := by
    rintro i s' ⟨H1, I1, u1, _, eG⟩
    obtain ⟨_, its, c, r, q⟩ := I1.hok p _ (u1 _ _ nM e)
    obtain ⟨_, its2, c2, r2, q2⟩ := I1.hok _ _ eG
    obtain ⟨dn, e1, e2⟩ := vals_strs r2
    exact ⟨its, c, its2, c2, dn, q, r, q2, e1, e2⟩
  refine ⟨fun i s' j => ?_, fun i s' xs c j el h t et b more hz => ?_, fun i s' t tk n j et => ?_, fun i s' n j => ?_⟩
  · obtain ⟨its, c, its2, c2, dn, q, r, q2, e1, e2⟩ := read i s' j
    exact ⟨_, c, _, c2, dn, q, by rw [List.size_toArray, ← r.length, hs.len], q2, by rw [← e1], e2⟩
  · obtain ⟨its, c', its2, c2, dn, q, r, q2, e1, e2⟩ := read i s' j
    have q := q.symm.trans el
    have exs : xs = its.toArray := by cases q; rfl
    subst exs
    obtain ⟨H1, I1, u1, i1, eG⟩ := j
    have k1 : i < us.length := by rw [r.length]; simpa using h
    obtain ⟨y, ey, ry⟩ := r.get (List.getElem?_eq_getElem k1)
    obtain ⟨d, ed, hd⟩ := hs.getL (List.getElem?_eq_getElem k1)
    have ey' : its.toArray[i] = y := by
      have : i < its.length := by simpa using h
      rw [List.getElem?_eq_getElem this] at ey
      simpa using Option.some.inj ey
    rw [ey']
    have st : ∀ {v d}, Is T W H v d → Is T (Wg W s.heap.objs.size ((ts.take i).map V.str)) H1 v d := fun h => IsD.conv (fun a o n e => ⟨fun m => m.elim n fun z => ne_of_none e hG z, u1 a o n e⟩) (pot_ne hI hG) h
    have whole : Is T W H (.ref p) (.lst l) := .lst nM e hs
    have hdl : dep d < dep (.lst l) := Nat.lt_succ_of_le (dep_mem (List.mem_of_getElem? ed))
    have gd' : Gd T (Wg W s.heap.objs.size ((ts.take i).map V.str)) H1 (dep d) (.builtin "list.__repr__.loop" ⟨.ref p :: more, []⟩ :: g) :=
      (gd.conv (Nat.le_of_lt hdl) st).cons (st whole) (show pur (.lst l) = true from hp) hdl
    refine wpAny_mono (hf _ _ pins s' σ H1 _ y d t b _ (sub_list sb) (guards_under_guard (isGuard_list_loop _) hg) gd' I1 ⟨i1, eG⟩ (st hd) ry (mapT_get ht ed et) hz) (fun t' s2 q => ?_) fun _ _ e => e
    obtain ⟨rfl, H2, I2, u2, i2⟩ := q
    refine ⟨rfl, ⟨H2, I2, fun a o nMa ea => ?_, i2.1, i2.2⟩⟩
    exact u2 a o (fun m => m.elim nMa fun z => ne_of_none ea hG z) (u1 a o nMa ea)
  · obtain ⟨H1, I1, u1, i1, eG⟩ := j
    obtain ⟨_, its2, c2, r2, q2⟩ := I1.hok _ _ eG
    have lt : i < ts.length := (List.getElem?_eq_some_iff.mp et).1
    have e2 : (ts.take (i + 1)).map V.str = (ts.take i).map V.str ++ [.str t] := by rw [List.take_add_one, et]; simp
    have z : l.length ≤ sizeLine := by
      obtain ⟨_, _, _, z⟩ := I.list (SqL.of e)
      rw [← hs.len]
      exact z
    refine ⟨upd H1 s.heap.objs.size (.lst ((ts.take (i + 1)).map V.str)), ?_, fun a o nMa ea => ?_, I_mut i1 nG, upd_same⟩
    · rw [e2]
      refine I1.lset eG q2 (its' := its2 ++ [.str t tk]) (by simp) (vals_push r2) ?_
      rw [← e2, List.length_map, List.length_take]
      omega
    · rw [upd_ne (fun z => ne_of_none ea hG z)]
      exact u1 a o nMa ea
  · obtain ⟨H1, I1, u1, i1, eG⟩ := j
    exact ⟨H1, I1.tok n, u1, i1, eG⟩
end
end Uv
set_option Elab.async false
set_option linter.all false
set_option maxRecDepth 100000
set_option maxHeartbeats 4000000
namespace Uv
open PySem L2 Inn PySem.Spec PyProof.Rows
section
variable {T : Ct} {X : Cx} {k n : Nat} {own : OwnT}
theorem dct0 {pins : List (Addr × Obj)} {s : Shared} {σ : L2.St} {H : Hp} {p : Addr} (I : Inv X pins σ H s) (e : H p = some (.dK [])) : ∃ o ep, s.heap.get? p = some o ∧ o.cls = .type "dict" ∧ o.data = .dict #[] ep ∧ (p == sysModules) = false := by
  obtain ⟨_, ya, va, ra, da⟩ := (show ObjOk X.prog X.w H s.heap p (.dK []) from I.hok p _ e)
  have va0 : va = [] := by
    have := ra.length
    exact List.length_eq_zero_iff.mp (by simpa using this.symm)
  subst va0
  obtain ⟨oa, es, ep, hoa, hc, hda, hka, hpa, _⟩ := da
  have z := hpa.length
  have es0 : es = #[] := by
    have : es.toList = [] := List.length_eq_zero_iff.mp (by simpa using z)
    exact Array.toList_eq_nil_iff.mp this
  exact ⟨oa, ep, hoa, hc.1, es0 ▸ hda, ya⟩
theorem tx_list {f : D → Option Str} (hf : RunT T X k f) {W : Wo} {A : Around} {pins : List (Addr × Obj)} {s : Shared} {σ : L2.St} {H : Hp} {p : Addr} {us : List V} {l : List D} {g : List Code} {ts : List Str} {base : Nat} {R : Result → Shared → Prop}
    (inj : ∀ c c', c < T.n → c' < T.n → T.at_ c = T.at_ c' → c = c') (sb : L2.Sub X (k + 1) A) (hg : A.guards = some g) (gd : Gd T W H (dep (.lst l)) g) (I : Inv X pins σ H s) (hI : W.I H) (nM : ¬ W.M p) (e : H p = some (.lst us)) (hs : Iss T W H us l) (ht : mapT f l = some ts) (hp : purL l = true) (hl : l ≠ [])
    (hz : base + (listText ts).length ≤ sizeLine) (hE : (fun e s' => R (.error e) s') = X.xe) (fin : ∀ s' u, (∃ H', Inv X pins σ H' s' ∧ Up W.toWld H H' ∧ W.I H') → R (.ok (.ret (.str (listText ts) u))) s') :
    wpAny (model X.prog X.w) A.in1 (Builtin.listReprAt base ⟨[.ref p], []⟩) (GoesOn X.prog X.w A R) (fun e s' => R (.error e) s') s := by
  obtain ⟨_, its, c, r, q⟩ := I.hok p _ e
  have G := gath hf inj sb hg gd I hI nM e hs ht hp
  rw [← hE] at G
  have hG : H s.heap.objs.size = none := I.hok.fresh (Nat.le_refl _)
  have nG : ¬ W.M s.heap.objs.size := not_M hI hG
  have cl := Gd.clear inj gd (show Is T W H (.ref p) (.lst l) from .lst nM e hs) (show pur (.lst l) = true from hp)
  refine listReprJ (m := l.length) hg (fun v more kw hm => listSameRef_of_ne (cl _ v more kw hm)) q (by rw [List.size_toArray, ← r.length, hs.len]) (List.length_pos_iff.mpr hl) G (mapT_len ht) hz ?_ (fun s' u j => ?_)
  · refine ⟨upd H s.heap.objs.size (.lst []), ?_, Up.new hG, I_new hI hG, by rw [List.take_zero]; exact upd_same⟩
    exact I.lnew (its := []) .nil (Nat.zero_le _)
  · obtain ⟨H1, I1, u1, i1, _⟩ := j
    exact fin s' u ⟨H1, I1, u1, i1⟩
theorem turns {f : D → Option Str} (hf : RunT T X k f) {W : Wo} {A : Around} {pins : List (Addr × Obj)} {σ : L2.St} {H : Hp} {m : Nat} {g : List Code} (sb : L2.Sub X k A) (hg : A.guards = some g) (gd : Gd T W H m g) : ∀ {us : List V} {its : List Value} {l : List D} {ts : List Str}, Vals us its → Iss T W H us l → depL l ≤ m → mapT f l = some ts →
    TurnsT X.prog X.w A X.xe (fun s' => ∃ H', Inv X pins σ H' s' ∧ Up W.toWld H H' ∧ W.I H') its ts
  | _, _, _, _, .nil, .nil, _, h => by cases h; exact .nil
  | _, _, d :: l, ts, .cons r rs, .cons h1 hs, hd, h => by
    unfold mapT at h
    split at h
    · rename_i t ts' e1 e2
      cases h
      have hd1 : dep d ≤ m := Nat.le_trans (Nat.le_max_left _ _) hd
      refine .cons (fun b s' j hz => ?_) (turns hf sb hg gd rs hs (Nat.le_trans (Nat.le_max_right _ _) hd) e2)
      obtain ⟨H1, I1, u1, i1⟩ := j
      refine wpAny_mono (hf W A pins s' σ H1 _ _ d t b g sb hg (gd.conv hd1 (fun h => Is.up u1 h)) I1 i1 (Is.up u1 h1) r e1 hz) (fun t' s2 q => ?_) fun _ _ e => e
      obtain ⟨rfl, H2, I2, u2, i2⟩ := q
      exact ⟨rfl, H2, I2, u1.trans u2, i2⟩
    · cases h
theorem runT1 (B : TxtB T X.prog X.w X.K X.mg X.base k own) {j : Nat} (hj : k ≤ j) {f : D → Option Str} (hf : RunT T X j f) (hp : ∀ {d t}, f d = some t → pur d = true) : RunT T X (j + 1) (txt1 own f) := by
  intro W A pins s σ H v x d t b g sb hg gd I hI hv rv ht hz
  unfold txt1 at ht
  split at ht
  · rename_i l
    cases e : mapT f l with
    | none => rw [e] at ht; cases ht
    | some ts =>
      rw [e] at ht
      cases ht
      have pl := purL_ofM hp e
      cases hv with | @lst p us _ nM eH hs =>
      cases rv
      obtain ⟨_, its, c, r, q⟩ := I.hok p _ eH
      by_cases hl : l = []
      · subst hl
        cases hs
        cases r
        cases e
        exact underNilJ q sb.room.units0 (by omega) fun n => ⟨rfl, H, I.tok n, Up.refl _, hI⟩
      · exact underListJ q sb.room.units0 hz (tx_list hf B.inj sb hg gd I hI nM eH hs e pl hl hz rfl fun s' u j => ⟨⟨_, _, rfl⟩, _, _, rfl, rfl, j⟩)
  · rename_i l
    cases e : mapT f l with
    | none => rw [e] at ht; cases ht
    | some ts =>
      rw [e] at ht
      cases ht
      have pl := purL_ofM hp e
      have hv0 := hv
      cases hv with | @tup p us _ nM eH hs =>
      cases rv
      obtain ⟨its, r, pt, _⟩ := I.tuple (SqT.of eH)
      obtain ⟨o, ho, hc, n, hd⟩ := pt
      have cl := Gd.clear B.inj gd hv0 (show pur (.tup l) = true from pl)
      have hdl : depL l < dep (.tup l) := Nat.lt_succ_self _
      have gd' : Gd T W H (depL l) (.builtin "tuple.__repr__.under" ⟨.ref p :: [rawInt b], []⟩ :: g) := (gd.conv (Nat.le_of_lt hdl) fun h => h).cons hv0 (show pur (.tup l) = true from pl) hdl
      refine underTupJ ho hc sb.room.units0 hz (tupReprJ ho hd hg (tupGuardF_of_clear cl) (turns hf (sub_tupU sb) (guards_under_guard (isGuard_tuple_repr_under _) hg) gd' (by simpa using r) hs (Nat.le_refl _) e) ⟨H, I, Up.refl _, hI⟩ (fun s' u j => ?_) hz)
      obtain ⟨H1, I1, u1, i1⟩ := j
      exact ⟨⟨_, _, rfl⟩, _, _, rfl, rfl, H1, I1.tok _, u1, i1⟩
  · cases ht
    cases hv with | @dct p kvs _ _ nM eH hk hs =>
    cases rv
    have : kvs = [] := List.map_eq_nil_iff.mp hk
    subst this
    obtain ⟨o, ep, ho, hc, hd, hsys⟩ := dct0 I eH
    have cl := Gd.clear B.inj gd (show Is T W H (.ref p) (.dct [] []) from .dct nM eH hk hs) rfl
    have K : ReprK X.prog X.w [p] s.heap 1 (.ref p) (dictText []) := ReprK.dict (as := []) (d := 0) ho hc hd hsys (by simp) .nil
    exact K b hz A g X.xe s _ hg (fun c hm => by rw [List.mem_singleton.mp hm]; exact cl) (by have := sb.room.un; omega) (fun _ _ z => z) fun h' tk hk => ⟨rfl, H, I.kept hk, Up.refl _, hI⟩
  · exact runT0 B W A pins s σ H v x d t b g (sb.mono (by omega)) hg gd I hI hv rv ht hz
theorem runT (B : TxtB T X.prog X.w X.K X.mg X.base k own) : ∀ n : Nat, RunT T X (k + n) (txtD own n)
  | 0 => runT0 B
  | n + 1 => runT1 B (Nat.le_add_right _ _) (runT B n) (fun h => pur_of h)
/-- repr(x) -/
def reprF (own : OwnT) (n : Nat) : List D → M D
  | [d] => fun R => ∃ t, txtD own n d = some t ∧ t.length ≤ sizeLine ∧ R (.str t)
  | _ => fail
theorem b_repr {W : Wo} (B : TxtB T X.prog X.w X.K X.mg X.base k own) (hG : X.A.guards = some []) (hr : Room (k + n + 2) X.A) : OpN T X W (.builtin "repr") (reprF own n) := by
  intro pins s σ H us vs Q I r ⟨xs, R, hx, hI, hg, q⟩
  unfold reprF at hg
  split at hg
  · rename_i d
    obtain ⟨t, ht, hz, hR⟩ := hg
    obtain ⟨v, rfl, hv⟩ := iss1 hx
    cases r with
    | @cons _ u0 _ _ rv rn =>
      cases rn
      have fin : ∀ {z s'}, (∃ tk, z = .str t tk ∧ ∃ H', Inv X pins σ H' s' ∧ Up W.toWld H H' ∧ W.I H') → EP X pins σ Q z s' := by
        rintro z s' ⟨tk, rfl, H', I', u', i'⟩
        exact ⟨.str t, H', I', ⟨tk, rfl⟩, q _ _ H' hR u' i' .str⟩
      have sb : L2.Sub X (k + n + 2) X.A := ⟨hr, rfl⟩
      have sb1 : L2.Sub X (k + n + 1) X.A.in1 := sb.in1
      have flat : ∀ {t'}, txt0 own d = some t' → t' = t → wpAny (model X.prog X.w) X.A (call (.builtin "repr") [u0]) (EP X pins σ Q) X.xe s := fun {t'} h0 et => by
        subst et
        cases hv with
        | @int i =>
          obtain ⟨tk, rfl⟩ := rv
          have h0 : (if i.natAbs.log2 < 1920 then some (Str.ofString (toString i)) else none) = some t' := h0
          split at h0
          · rename_i hb
            cases h0
            exact PySem.P.repr_of_int hb (fin ⟨_, rfl, H, I.tok _, Up.refl _, hI⟩)
          · cases h0
        | @bl b2 =>
          cases rv
          refine PySem.P.repr_of_bool (fin ⟨s.toks, ?_, H, I.tok _, Up.refl _, hI⟩)
          cases b2 <;> cases h0 <;> rfl
        | non =>
          cases rv
          cases h0
          exact PySem.P.repr_of_none (fin ⟨_, rfl, H, I.tok _, Up.refl _, hI⟩)
        | str =>
          obtain ⟨tk, rfl⟩ := rv
          cases h0
          exact PySem.P.repr_of_str (fin ⟨_, rfl, H, I.tok _, Up.refl _, hI⟩) hz
        | @ins p dx c us l hc nM e hl hs =>
          have h0 : (if purL l = true then own c l else none) = some t' := h0
          split at h0
          · rcases B.all c hc with no | ⟨f, fd, ps, b0, e1, e2, F, hbi⟩
            · rw [no] at h0
              cases h0
            · cases rv
              obtain ⟨mA, J, _⟩ := ins_get I.hok e
              obtain ⟨od, J, _⟩ := J.look
              obtain ⟨m, hF⟩ := I.fr
              refine PySem.W.repr_K sb1.room.units0 hF I.ok.mod.kin J e1 e2 (wpAny_mono (ownT_run (W := W) F hbi (sb1.room.mono (by omega)) rfl I hI (.ins hc nM e hl hs) rfl h0) (fun z s' q => ?_) fun _ _ e => e)
              obtain ⟨tk, rfl, H', I', u', i'⟩ := q
              exact fin ⟨tk, rfl, H', I', u', i'⟩
          · cases h0
        | _ => cases h0
      cases n with
      | zero => exact flat ht rfl
      | succ n =>
        replace ht : txt1 own (txtD own n) d = some t := ht
        unfold txt1 at ht
        split at ht
        · rename_i l
          cases e : mapT (txtD own n) l with
          | none => rw [e] at ht; cases ht
          | some ts =>
            rw [e] at ht
            cases ht
            have pl := purL_ofM (fun h => pur_of h) e
            cases hv with | @lst p us _ nM eH hs =>
            cases rv
            obtain ⟨_, its, c, r, ql⟩ := I.hok p _ eH
            by_cases hl : l = []
            · subst hl
              cases hs
              cases r
              cases e
              exact call_repr_slot (by have := hr.un; omega) ⟨_, ql, rfl⟩ F.slot_list_repr.toG (call_list_repr_empty ⟨_, ql, rfl⟩ ql rfl ⟨_, _, rfl, fin ⟨_, rfl, H, I.tok _, Up.refl _, hI⟩⟩)
            · exact callListJ ql (by have := hr.un; omega) (tx_list (runT B n) B.inj (sb1.mono (by omega)) hG Gd.nil I hI nM eH hs e pl hl (by simpa using hz) rfl fun s' u j => ⟨_, _, rfl, fin ⟨_, rfl, j⟩⟩)
        · rename_i l
          cases e : mapT (txtD own n) l with
          | none => rw [e] at ht; cases ht
          | some ts =>
            rw [e] at ht
            cases ht
            cases hv with | @tup p us _ nM eH hs =>
            cases rv
            obtain ⟨its, r, pt, _⟩ := I.tuple (SqT.of eH)
            obtain ⟨o, ho, hc, m, hd⟩ := pt
            have pl := purL_ofM (fun h => pur_of h) e
            have gd' : Gd T W H (depL l) (.builtin "tuple.__repr__" ⟨.ref p :: [], []⟩ :: []) := (Gd.nil (n := depL l)).cons (show Is T W H (.ref p) (.tup l) from .tup nM eH hs) (show pur (.tup l) = true from pl) (Nat.lt_succ_self _)
            refine callTupJ ho hc (by have := hr.un; omega) (tupReprJ ho hd hG (tupGuardF_of_clear (Clear.nil _)) (turns (runT B n) (sub_tup (sb1.mono (by omega))) (guards_under_guard (isGuard_tuple_repr _) hG) gd' (by simpa using r) hs (Nat.le_refl _) e) ⟨H, I, Up.refl _, hI⟩ (fun s' u j => ?_) (by simpa using hz))
            obtain ⟨H1, I1, u1, i1⟩ := j
            exact ⟨_, _, rfl, fin ⟨_, rfl, H1, I1.tok _, u1, i1⟩⟩
        · cases ht
          cases hv with | @dct p kvs _ _ nM eH hk hs =>
          cases rv
          have : kvs = [] := List.map_eq_nil_iff.mp hk
          subst this
          obtain ⟨o, ep, ho, hc, hd, hsys⟩ := dct0 I eH
          exact call_repr_slot (by have := hr.un; omega) ⟨o, ho, hc⟩ F.slot_dict_repr (call_dict_reprK (as := []) (d := 0) ho hc hd hsys (by simp) .nil hG (fun c _ => Clear.nil c) (by have := hr.un; show X.A.units + 1 + 1 < cLine; omega) (fun _ _ z => z) (fun h' tk1 tk hk => ⟨_, _, rfl, fin ⟨_, rfl, H, I.kept hk, Up.refl _, hI⟩⟩) hz)
        · exact flat ht rfl
  · exact hg.elim
end
end Uv
set_option Elab.async false
set_option linter.all false
set_option maxRecDepth 100000
set_option maxHeartbeats 4000000
namespace Uv
open PySem L2 Inn PySem.Spec PyProof.Rows
def isBG : D → D → M D
  | .bl a, .bl b => rt (.bl (a == b))
  | _, _ => fail
def notBG : D → D → M D
  | .bl a, .bl b => rt (.bl (!(a == b)))
  | _, _ => fail
/-- a op b op' c -/
def chainM (g g' : D → D → M D) (ma mb mc : M D) : M D := fun R => ma fun x => mb fun y => g x y fun z => match z with
  | .bl k => ite2 k (mc fun w => g' y w R) (R (.bl false))
  | _ => False
def flats : List D → Option (List V)
  | [] => some []
  | d :: ds => match flatD d, flats ds with
    | some v, some vs => some (v :: vs)
    | _, _ => none
/-- *m in a display -/
def starM (m : M D) (ml : M (List D)) : M (List D) := fun R => m fun d => itemsG d fun xs => ml fun ys => R (xs ++ ys)
def fmtG : D → M D
  | .int i => asks (i.natAbs.log2 < 1920) (rt (.str (Str.ofString (toString i))))
  | .str y => asks (y.length ≤ sizeLine) (rt (.str y))
  | _ => fail
def joinM : Str → List (M D) → M Str
  | acc, [] => fun R => R acc
  | acc, m :: ms => fun R => m fun d => ∃ y, d = .str y ∧ (acc ++ y).length ≤ sizeLine ∧ joinM (acc ++ y) ms R
def strM (ms : List (M D)) : M D := fun R => joinM Str.empty ms fun t => R (.str t)
section
variable {T : Ct} {X : Cx} {W W0 : Wo} {σ : L2.St} {H H0 : Hp} {pos p : Pos} {a b c e : Expr} {es : List Expr} {ma mb mc m : M D} {ml : M (List D)} {ρ : List (Option D)} {own1 own2 : D → D → M D}
theorem sv (i : Nat) (n : Sees T W σ H ρ) {nm : Str} {d : D} (hρ : ρ[i]? = some (some d) := by rfl) (hN : X.N[i]? = some nm := by rfl)
    (hvis : Vis X.env.scope nm := by first | exact Or.inl rfl | exact Or.inr (Or.inl rfl) | exact Or.inr (Or.inr rfl)) (hd : (nm == ("__debug__" : Str)) = false := by decide) (hcd : (nm == ("__classdict__" : Str)) = false := by decide) :
    Dw T X W (.Name nm pos) σ H (rt d) := by
  obtain ⟨v, e, h⟩ := n.2 i d hρ
  exact .of (pe_var hN hvis hd hcd) fun R hm H1 u hI Q q => ⟨v, e, q v H1 d (Up.refl _) hI (h.up u) hm⟩
theorem op_isBG : Op2 T X W (compareOp .Is) isBG := by
  intro pins s σ H u v a b Q I ra rb ⟨x, y, R, hx, hy, hI, hg, q⟩
  unfold isBG at hg
  split at hg
  · cases hx; cases hy
    cases ra; cases rb
    rename_i k j
    have h : EP X pins σ Q (.bool (Value.bool k == Value.bool j)) s := ⟨.bl (k == j), H, I, by cases k <;> cases j <;> rfl, q _ _ H hg (Up.refl _) hI .bl⟩
    exact wpAny_bind (wpAny_pure (wpAny_pure h))
  · exact hg.elim
theorem op_notBG : Op2 T X W (compareOp .IsNot) notBG := by
  intro pins s σ H u v a b Q I ra rb ⟨x, y, R, hx, hy, hI, hg, q⟩
  unfold notBG at hg
  split at hg
  · cases hx; cases hy
    cases ra; cases rb
    rename_i k j
    have h : EP X pins σ Q (.bool (!(Value.bool k == Value.bool j))) s := ⟨.bl (!(k == j)), H, I, by cases k <;> cases j <;> rfl, q _ _ H hg (Up.refl _) hI .bl⟩
    exact wpAny_bind (wpAny_pure (wpAny_pure h))
  · exact hg.elim
theorem dw_fmt (h : Dw T X W e σ H m) : Dw T X W (.FormattedValue e (-1) none pos) σ H (op1 fmtG m) :=
  .of (pe_fmt pe_any) fun R hm H1 u hI Q q => h.go hm u hI fun v H2 x u2 i2 hx px => by
    unfold fmtG at px
    split at px
    · cases hx
      exact .inr ⟨_, rfl, px.1, q _ H2 _ u2 i2 .str px.2⟩
    · cases hx
      exact .inl ⟨_, rfl, px.1, q _ H2 _ u2 i2 .str px.2⟩
    · exact px.elim
/-- the parts of a text -/
def Jw (T : Ct) (X : Cx) (W : Wo) (es : List Expr) (σ : L2.St) (H : Hp) (ms : List (M D)) : Prop := ∃ ts, PJ X es ts ∧ ∀ (acc : Str) (R : Str → Prop), joinM acc ms R → ∀ H1, Up W.toWld H H1 → W.I H1 → ∀ Q : Str → Hp → Prop, (∀ t H2, Up W.toWld H1 H2 → W.I H2 → R t → Q t H2) → tJs ts acc σ H1 Q
theorem j_nil : Jw T X W [] σ H [] := ⟨[], .nil, fun acc R hm H1 u hI Q q => q acc H1 (Up.refl _) hI hm⟩
theorem j_cons {ms : List (M D)} (h : Dw T X W e σ H m) (hr : Jw T X W es σ H ms) : Jw T X W (e :: es) σ H (m :: ms) := by
  obtain ⟨ts, pj, vj⟩ := hr
  refine ⟨teAny X e :: ts, .cons pe_any pj, fun acc R hm H1 u hI Q q => h.go hm u hI fun v H2 x u2 i2 hx px => ?_⟩
  obtain ⟨y, rfl, hz, hm⟩ := px
  cases hx
  exact ⟨y, rfl, hz, vj (acc ++ y) R hm H2 (u.trans u2) i2 Q fun t H3 u3 i3 hr => q t H3 (u2.trans u3) i3 hr⟩
theorem dw_joined {v1 v2 : Expr} {rest : List Expr} {ms : List (M D)} (h : Jw T X W (v1 :: v2 :: rest) σ H ms) : Dw T X W (.JoinedStr (v1 :: v2 :: rest) pos) σ H (strM ms) := by
  obtain ⟨ts, pj, vj⟩ := h
  exact .of (pe_joined pj) fun R hm H1 u hI Q q => vj Str.empty _ hm H1 u hI _ fun t H2 u2 i2 hr => q _ H2 _ u2 i2 .str hr
end
end Uv
set_option Elab.async false
set_option linter.all false
set_option maxRecDepth 100000
set_option maxHeartbeats 4000000
namespace Uv
open PySem L2 Inn PySem.Spec PyProof.Rows
/-! ### a list that is a def's own: it stands in the slot i, at p -/
structure NowO (T : Ct) (W0 W : Wo) (H0 : Hp) (σ : L2.St) (H : Hp) (ρ : List (Option D)) (i : Nat) (l : List D) (p : Addr) (us : List V) : Prop where
  now : Now T W0 (Wg W p us) H0 σ H (ρ.set i (some (.cls (.ref p))))
  con : Iss T (Wg W p us) H us l
  nM : ¬ W.M p
section
variable {T : Ct} {X : Cx} {W W0 W1 : Wo} {σ σ1 : L2.St} {H H0 H1 : Hp} {pos p0 p1 p2 pa pc : Pos} {a b c e : Expr} {es : List Expr} {m ma mb mc : M D} {ml : M (List D)} {mt : M Bool} {ρ ρ1 ρ2 : List (Option D)} {i : Nat} {l : List D} {p : Addr} {us : List V} {D' : Ends} {sts body : List Stmt} {nm : Str} {P : D → Prop} {PL : List D → Prop}
theorem Now.join2 (a : Now T W0 W H0 σ H ρ) (b : Now T W W1 H σ1 H1 ρ1) : Now T W0 W1 H0 σ1 H1 ρ1 := ⟨fun x o n e => b.up x o (a.rel x o n e) (a.up x o n e), fun x o n e => b.rel x o (a.rel x o n e) (a.up x o n e), b.inv, b.see⟩
theorem NowO.at_ (o : NowO T W0 W H0 σ H ρ i l p us) (hρ : (ρ.set i (some (D.cls (.ref p))))[i]? = some (some (.cls (.ref p)))) : σ[i]? = some (some (.ref p)) := by
  obtain ⟨v, e, h⟩ := o.now.see.2 i _ hρ
  cases h
  exact e
theorem NowO.next (o : NowO T W0 W H0 σ H ρ i l p us) (n : Now T (Wg W p us) (Wg W p us) H σ1 H1 ρ2) (e : ρ2 = ρ1.set i (some (.cls (.ref p))) := by rfl) : NowO T W0 W H0 σ1 H1 ρ1 i l p us := by
  subst e
  exact ⟨o.now.join2 n, Iss.up n.up o.con, o.nM⟩
theorem NowO.go (o : NowO T W0 W H0 σ H ρ i l p us) (u : Up (Wg W p us).toWld H H1) (hI : (Wg W p us).I H1) : NowO T W0 W H0 σ H1 ρ i l p us := ⟨o.now.go u hI, Iss.up u o.con, o.nM⟩
/-- the list is let go: a value like others -/
theorem NowO.thaw (o : NowO T W0 W H0 σ H ρ i l p us) (hρ : (ρ.set i (some (D.cls (.ref p))))[i]? = some (some (.cls (.ref p)))) (hrel : ∀ x o', ¬ W0.M x → H0 x = some o' → ¬ W.M x) : Now T W0 W H0 σ H (ρ.set i (some (.lst l))) := by
  refine ⟨o.now.up, hrel, o.now.inv.1, ⟨by rw [o.now.see.1, List.length_set, List.length_set], fun j d e => ?_⟩⟩
  by_cases hij : i = j
  · subst hij
    rw [List.getElem?_set_self (by
      have := (List.getElem?_eq_some_iff.mp hρ).1
      simpa using this)] at e
    cases e
    exact ⟨_, o.at_ hρ, .lst o.nM o.now.inv.2 o.con.wk⟩
  · rw [List.getElem?_set_ne hij] at e
    obtain ⟨v, e1, h1⟩ := o.now.see.2 j d (by rw [List.getElem?_set_ne hij]; exact e)
    exact ⟨v, e1, h1.wk⟩
theorem NowO.rel (o : NowO T W0 W H0 σ H ρ i l p us) : ∀ x o', ¬ W0.M x → H0 x = some o' → ¬ W.M x := fun x o' n e m => o.now.rel x o' n e (.inl m)
theorem NowO.end_ (o : NowO T W0 W H0 σ H ρ i l p us) (hρ : (ρ.set i (some (D.cls (.ref p))))[i]? = some (some (.cls (.ref p))) := by rfl) : Now T W0 W H0 σ H (ρ.set i (some (.lst l))) := o.thaw hρ o.rel
/-- less is known of the other slots -/
theorem NowO.less (o : NowO T W0 W H0 σ H ρ i l p us) (hl : (ρ1.set i (some (.cls (.ref p)))).length = (ρ.set i (some (.cls (.ref p)))).length) (k : ∀ (j : Nat) (d : D), (ρ1.set i (some (.cls (.ref p))))[j]? = some (some d) → (ρ.set i (some (.cls (.ref p))))[j]? = some (some d)) : NowO T W0 W H0 σ H ρ1 i l p us :=
  ⟨o.now.less hl k, o.con, o.nM⟩
/-- tests that read the list as it stands -/
theorem up_thaw (hI : (Wg W p us).I H) (hI1 : (Wg W p us).I H1) (u : Up (Wg W p us).toWld H H1) : Up W.toWld H H1 := fun x o n e => by
  by_cases hx : x = p
  · subst hx
    rw [hI.2] at e
    cases e
    exact hI1.2
  · exact u x o (fun z => z.elim n hx) e
theorem tw_thaw (o : NowO T W0 W H0 σ H ρ i l p us) (h : Tw X W c σ H mt) : Tw X (Wg W p us) c σ H mt := fun R hm => by
  obtain ⟨t, pt, ev⟩ := h R hm
  refine ⟨t, pt, fun H1 u hI Q q => ev H1 (up_thaw o.now.inv hI u) hI.1 Q fun b H2 u2 i2 hb => q b H2 (fun x o' n e => u2 x o' (fun z => n (.inl z)) e) ⟨i2, u2 p _ o.nM hI.2⟩ hb⟩
/-- a flat value read off it -/
def flatM (m : M D) : M D := fun R => m fun d => flatD d ≠ none ∧ R d
/-- an item of it -/
theorem dw_ixO (o : NowO T W0 W H0 σ H ρ i l p us) (hj : Dw T X (Wg W p us) b σ H mb) (hs : PlainIx b := by exact fun _ _ => rfl) (hρ : (ρ.set i (some (D.cls (.ref p))))[i]? = some (some (.cls (.ref p))) := by rfl) (hN : X.N[i]? = some nm := by rfl)
    (hvis : Vis X.env.scope nm := by first | exact Or.inl rfl | exact Or.inr (Or.inl rfl) | exact Or.inr (Or.inr rfl)) (hd : (nm == ("__debug__" : Str)) = false := by decide) (hcd : (nm == ("__classdict__" : Str)) = false := by decide) :
    Dw T X (Wg W p us) (.Subscript (.Name nm p0) b pos) σ H (op2 ixG (rt (.lst l)) mb) := by
  refine .of (pe_ix ix_seq (pe_var hN hvis hd hcd) pe_any hs) fun R hm H1 u hI Q q => ⟨.ref p, o.at_ hρ, ?_⟩
  have hm : mb fun y => ixG (.lst l) y R := hm
  refine hj.go hm u hI fun w H3 y u3 i3 hy py => ?_
  unfold ixG at py
  cases y with
  | int k =>
    obtain ⟨z, ez, hz⟩ := py
    cases hy
    obtain ⟨w, ew, hw⟩ := iss_atI (Iss.up (u.trans u3) o.con) ez
    exact .inl ⟨_, _, _, w, rfl, rfl, SqL.of i3.2, ew, q w H3 z u3 i3 hw hz⟩
  | _ => exact py.elim
/-- x[j] = e -/
def storeM (l : List D) (m mj : M D) (k : List D → Prop) : Prop := m fun d => mj fun y => match y with
  | .int z => ∃ j, ixN l.length z = some j ∧ k (l.set j d)
  | _ => False
theorem w_storeO (o : NowO T W0 W H0 σ H ρ i l p us) (he : Dw T X (Wg W p us) e σ H m) (hj : Dw T X (Wg W p us) b σ H mb) (hm : storeM l m mb PL) (k : ∀ l' us' H1, NowO T W0 W H0 σ H1 ρ i l' p us' → PL l' → Wss X sts D' σ H1)
    (hρ : (ρ.set i (some (D.cls (.ref p))))[i]? = some (some (.cls (.ref p))) := by rfl) (hN : X.N[i]? = some nm := by rfl)
    (hvis : Vis X.env.scope nm := by first | exact Or.inl rfl | exact Or.inr (Or.inl rfl) | exact Or.inr (Or.inr rfl)) (hd : (nm == ("__debug__" : Str)) = false := by decide) (hcd : (nm == ("__classdict__" : Str)) = false := by decide)
    (hs : swapsWithSole [.Subscript (.Name nm p0) b p1] e pos.line X.env = pure false := by rfl) (hw : swappedStores [.Subscript (.Name nm p0) b p1] e X.env = pure none := by rfl) (h1 : (assignEach [.Subscript (.Name nm p0) b p1] X.env).map (·.2) = [assign (.Subscript (.Name nm p0) b p1) X.env] := by rfl)
    (ha : ∀ v, assign (.Subscript (.Name nm p0) b p1) X.env v = (do
      let ov ← holding [v] (eval (.Name nm p0) X.env)
      let iv ← holding [v, ov] (eval b X.env)
      standAt p1
      holding [v, ov, iv] (setItem ov iv v)
      release [v, ov, iv] []) := by intro _; rfl) :
    Wss X (.Assign [.Subscript (.Name nm p0) b p1] e pos :: sts) D' σ H := by
  refine ⟨_, pss_cons (ps_asg pe_any (pg_sub (pe_var hN hvis hd hcd) pe_any set_list ha) hs hw h1) wss_all, he.go hm (Up.refl _) o.now.inv fun v H1 d u i1 hv pd => ⟨.ref p, o.at_ hρ, hj.go pd u i1 fun w H2 y u2 i2 hy py => ?_⟩⟩
  cases y with
  | int z =>
    obtain ⟨j, ej, hk⟩ := py
    cases hy
    have hc := Iss.up (u.trans u2) o.con
    refine ⟨p, us, z, j, rfl, rfl, i2.2, by rw [o.con.len]; exact ej, ?_⟩
    have hv2 := Is.up u2 hv
    refine k (l.set j d) (us.set j v) _ ⟨⟨fun x o' n e => ?_, o.now.rel, ⟨I_mut i2.1 o.nM, upd_same⟩, ((o.now.see.up u).up u2).gw⟩, Iss.gw (IsDs.set hv2 j hc), o.nM⟩ hk
    have nx : x ≠ p := fun z => o.now.rel x o' n e (.inr z)
    rw [upd_ne nx]
    exact (u.trans u2) x o' (o.now.rel x o' n e) (o.now.up x o' n e)
  | _ => exact py.elim
/-- x.append(e) -/
def appM (l : List D) (m : M D) (k : List D → Prop) : Prop := m fun d => l.length < sizeLine ∧ k (l ++ [d])
/-- x.extend(e) -/
def extM (l : List D) (m : M D) (k : List D → Prop) : Prop := m fun d => match d with
  | .lst r => l.length + r.length ≤ sizeLine ∧ k (l ++ r)
  | _ => False
/-- x.pop() -/
def popM (l : List D) (k : List D → Prop) : Prop := l ≠ [] ∧ k l.dropLast
theorem IsDs.dropLast {T : Ct} {N P : Addr → Prop} {H : Hp} {vs : List V} {ds : List D} (h : IsDs T N P H vs ds) : IsDs T N P H vs.dropLast ds.dropLast := by
  rw [List.dropLast_eq_take, List.dropLast_eq_take, h.len]
  exact h.take _
theorem w_popO (o : NowO T W0 W H0 σ H ρ i l p us) (hm : popM l PL) (k : ∀ l' us' H1, NowO T W0 W H0 σ H1 ρ i l' p us' → PL l' → Wss X sts D' σ H1)
    (hρ : (ρ.set i (some (D.cls (.ref p))))[i]? = some (some (.cls (.ref p))) := by rfl) (hN : X.N[i]? = some nm := by rfl)
    (hvis : Vis X.env.scope nm := by first | exact Or.inl rfl | exact Or.inr (Or.inl rfl) | exact Or.inr (Or.inr rfl)) (hd : (nm == ("__debug__" : Str)) = false := by decide) (hcd : (nm == ("__classdict__" : Str)) = false := by decide)
    (hbase : attributeBase (.Name nm p0) "pop" X.env (eval (.Name nm p0) X.env) = eval (.Name nm p0) X.env := by rfl) (hline : (pa.endLine == pc.line) = true := by rfl) (hsw : swapsWith (.Call (.Attribute (.Name nm p0) "pop" pa) [] [] pc) none pos.line X.env = pure false := by rfl) :
    Wss X (.Expr (.Call (.Attribute (.Name nm p0) "pop" pa) [] [] pc) pos :: sts) D' σ H := by
  refine ⟨_, pss_cons (ps_expr (pe_bm0 PySem.F.plainAttrs_list PySem.F.slot_list_pop PySem.F.type_list_pop mt_pop (pe_var hN hvis hd hcd) hbase hline) hsw) wss_all, ?_⟩
  have hl : us ≠ [] := fun z => hm.1 (List.length_eq_zero_iff.mp (by rw [← o.con.len, z]; rfl))
  have lt : us.length - 1 < us.length := Nat.sub_lt (List.length_pos_iff.mpr hl) Nat.one_pos
  refine ⟨.ref p, o.at_ hρ, .inl ⟨rfl, _, SqL.of o.now.inv.2⟩, p, us, us[us.length - 1], rfl, rfl, o.now.inv.2, List.getElem?_eq_getElem lt, ?_⟩
  refine k l.dropLast us.dropLast _ ⟨⟨fun x o' n e => ?_, o.now.rel, ⟨I_mut o.now.inv.1 o.nM, upd_same⟩, o.now.see.gw⟩, Iss.gw o.con.dropLast, o.nM⟩ hm.2
  have nx : x ≠ p := fun z => o.now.rel x o' n e (.inr z)
  rw [upd_ne nx]
  exact o.now.up x o' n e
end
end Uv
set_option Elab.async false
set_option linter.all false
set_option maxRecDepth 100000
set_option maxHeartbeats 4000000
namespace Uv
open PySem L2 Inn PySem.Spec PyProof.Rows
/-! ### a new list -/
/-- e makes a new list of ms's items -/
def Fw (T : Ct) (X : Cx) (W : Wo) (e : Expr) (σ : L2.St) (H : Hp) (m : M (List D)) : Prop :=
  ∀ R, m R → ∃ te, PE X e te ∧ ∀ H1, Up W.toWld H H1 → W.I H1 → ∀ Q : VK, (∀ p us H2 l, H1 p = none → Up W.toWld H1 H2 → W.I H2 → H2 p = some (.lst us) → Iss T (Wg W p us) H2 us l → R l → Q (.ref p) H2) → te σ H1 Q
/-- the list's items as data of the world in which it is alone -/
theorem lone {T : Ct} {W : Wo} {H : Hp} {p : Addr} {us vs : List V} {l : List D} (hI : W.I H) (hp : H p = none) (h : Iss T W H us l) : Iss T (Wg W p vs) (upd H p (.lst vs)) us l :=
  IsDs.conv (fun a o n e => ⟨fun m => m.elim n fun z => ne_of_none e hp z, by rw [upd_ne (ne_of_none e hp)]; exact e⟩) (pot_ne hI hp) h
section
variable {T : Ct} {X : Cx} {W W0 W1 : Wo} {σ σ1 : L2.St} {H H0 H1 : Hp} {pos p0 p1 p2 pa pc : Pos} {a b c e : Expr} {es : List Expr} {m ma mb mc : M D} {ml : M (List D)} {mt : M Bool} {ρ ρ1 ρ2 : List (Option D)} {i : Nat} {l : List D} {p : Addr} {us : List V} {D' : Ends} {sts body be : List Stmt} {nm : Str} {P : D → Prop} {PL : List D → Prop}
def fitM (ml : M (List D)) : M (List D) := fun R => ml fun xs => xs.length ≤ sizeLine ∧ R xs
theorem none_back {H2 : Hp} (u : Up W.toWld H1 H2) (hI : W.I H2) (hp : H2 p = none) : H1 p = none := by
  cases e : H1 p with
  | none => rfl
  | some o =>
    by_cases hM : W.M p
    · obtain ⟨o', e'⟩ := W.al hI hM
      rw [hp] at e'
      cases e'
    · have := u p o hM e
      rw [hp] at this
      cases this
/-- [..] * n -/
def repM (ml : M (List D)) (mb : M D) : M (List D) := fun R => ml fun xs => xs.length ≤ sizeLine ∧ mb fun d => match d with
  | .int k => (-(2 ^ 63) ≤ k ∧ k < 2 ^ 63 ∧ xs.length * k.toNat ≤ sizeLine) ∧ R (List.replicate k.toNat xs).flatten
  | _ => False
theorem fw_mul {p3 : Pos} (h : Lw T X W es σ H ml) (hb : Dw T X W b σ H mb) : Fw T X W (.BinOp (.List es p3) .Mult b pos) σ H (repM ml mb) := fun R hm =>
  ⟨_, pe_op op_rep (pe_lst pa_any) pe_any, fun H1 u hI Q q => h.go hm u hI fun vs H2 xs u2 i2 hxs px => ⟨by rw [hxs.len]; exact px.1, fun p hp => hb.go px.2 ((u.trans u2).trans (Up.new hp)) (I_new i2 hp) fun w H3 y u3 i3 hy py => by
    cases y with
    | int k =>
      cases hy
      have e3 : H3 p = some (.lst vs) := u3 p _ (not_M i2 hp) upd_same
      have hxs3 : Iss T W H3 vs xs := Iss.up ((Up.new hp).trans u3) hxs
      exact ⟨p, k, vs, rfl, rfl, e3, py.1.1, py.1.2.1, by rw [hxs.len]; exact py.1.2.2, fun p' hp' => q p' _ _ _ (none_back (u2.trans ((Up.new hp).trans u3)) i3 hp') (((u2.trans (Up.new hp)).trans u3).trans (Up.new hp')) (I_new i3 hp') upd_same (lone i3 hp' (hxs3.rep _)) py.2⟩
    | _ => exact py.elim⟩⟩
/-- list(x) -/
theorem fw_list {nm : Str} (h : Dw T X W e σ H m) (hm : X.mg nm = none) (hv : bootBuiltins nm = some (.type "list")) (hg : Gl X nm := by rfl) (hn : nm ≠ "__name__" := by decide) (hdb : (nm == ("__debug__" : Str)) = false := by decide)
    (hs : starEach (e :: []) X.env = (false, eval e X.env) :: starEach [] X.env := by rfl) (hpl : (backTo pos (starEach [] X.env)).any (·.1) = false := by rfl) (hK : T.K = X.K := by rfl) : Fw T X W (.Call (.Name nm p0) [e] [] pos) σ H (itemsM m) := fun R hR =>
  ⟨_, pe_callTy call_list_of hg hm hv (pa_cons pe_any pa_nil hs) hn hdb hs hpl, fun H1 u hI Q q => h.go hR u hI fun v H2 x u2 i2 hx px => by
    unfold itemsG at px
    split at px
    · cases hx with | @lst p0 us0 l0 n e hd =>
      exact ⟨_, _, rfl, .inl (SqL.of e), fun p hp => q p _ _ _ (none_back u2 i2 hp) (u2.trans (Up.new hp)) (I_new i2 hp) upd_same (lone i2 hp hd) px⟩
    · cases hx with | @tup p0 us0 l0 n e hd =>
      exact ⟨_, _, rfl, .inr (SqT.of e), fun p hp => q p _ _ _ (none_back u2 i2 hp) (u2.trans (Up.new hp)) (I_new i2 hp) upd_same (lone i2 hp hd) px⟩
    · rename_i l
      cases hx with | knw h =>
      exact ⟨_, _, rfl, .inr (h.sq hK), fun p hp => q p _ _ _ (none_back u2 i2 hp) (u2.trans (Up.new hp)) (I_new i2 hp) upd_same (lone i2 hp iss_ints) px⟩
    · exact px.elim⟩
/-- x = a new list, which is the def's own from here on -/
theorem w_own (i : Nat) {pos' : Pos} (n : Now T W0 W H0 σ H ρ) (he : Fw T X W e σ H ml) (hm : ml PL) (nd : X.N.Nodup) (k : ∀ l p us σ1 H1, NowO T W0 W H0 σ1 H1 ρ i l p us → PL l → Wss X sts D' σ1 H1)
    (hi : X.N[i]? = some nm := by rfl) (hx : Loc X.env.scope nm := by first | exact Or.inl rfl | exact Or.inr rfl) (hs : swapsWith e (some (.Name nm pos')) pos.line X.env = pure false := by rfl) (hf : X.fn nm = true ∨ X.env.scope.names.lookup nm = some .local := by first | exact .inl rfl | exact .inr rfl) :
    Wss X (.Assign [.Name nm pos'] e pos :: sts) D' σ H := by
  obtain ⟨te, pe, ev⟩ := he PL hm
  refine ⟨_, pss_cons (ps_set nd hi hx pe hs hf) wss_all, ev H (Up.refl _) n.inv _ fun p us H1 l hp u i1 e1 hl pl => ?_⟩
  have nM : ¬ W.M p := fun z => by
    obtain ⟨o, e⟩ := W.al n.inv z
    rw [hp] at e
    cases e
  have sees : Sees T (Wg W p us) σ H1 ρ := ⟨n.see.1, fun j d ej => by
    obtain ⟨v, e2, h2⟩ := n.see.2 j d ej
    exact ⟨v, e2, IsD.conv (fun a o nn ee => ⟨fun z => z.elim nn fun z => ne_of_none ee hp z, u a o nn ee⟩) (pot_ne n.inv hp) h2⟩⟩
  exact k l p us _ H1 ⟨⟨fun a o x y => u a o (n.rel a o x y) (n.up a o x y), fun a o x y z => z.elim (n.rel a o x y) fun z => ne_of_none (n.up a o x y) hp z, ⟨i1, e1⟩, sees.set i .cls⟩, hl, nM⟩ pl
/-! ### what is told -/
/-- return e, where the def began at Hs -/
theorem w_retW {Hs : Hp} {R : D → Prop} {Q : VK} (n : Now T W W Hs σ H ρ) (he : Dw T X W e σ H m) (hm : m R) (hq : ∀ y u H', R y → Up W.toWld Hs H' → W.I H' → Is T W H' u y → Q u H') (hD : D'.rt = Q) : Wss X (.Return (some e) pos :: sts) D' σ H :=
  w_ret n he hm fun d v H1 pd u i1 hd => by
    rw [hD]
    exact hq d v H1 pd (n.up.trans u) i1 hd
end
end Uv
set_option Elab.async false
set_option linter.all false
set_option maxRecDepth 100000
set_option maxHeartbeats 4000000
namespace Uv
open PySem L2 Inn PySem.Spec PyProof.Rows
section
variable {T : Ct} {X : Cx} {W W0 W1 : Wo} {σ σ1 : L2.St} {H H0 H1 : Hp} {pos p0 p1 p2 pa pc px py pt : Pos} {a b c e iter : Expr} {es : List Expr} {m ma mb mc : M D} {ml mi : M (List D)} {mt : M Bool} {ρ ρ1 ρ2 : List (Option D)} {i : Nat} {l : List D} {p : Addr} {us : List V} {D' : Ends} {sts body be : List Stmt} {nm : Str} {P : D → Prop} {PL : List D → Prop} {kt : Nat}
/-! ### loops while a list is the def's own -/
theorem w_forO {S : Type} {tg : Expr} {g : TG} {ρs : S → List (Option D)} {ls : S → List D} {ρb : S → D → List (Option D) → Prop} {f : D → S → (S → Prop) → (S → Prop) → Prop} {kk : S → Prop} (s0 : S) (o : NowO T W0 W H0 σ H ρ i l p us) (hit : Iw T X (Wg W p us) tg iter σ H mi) (hm : mi fun ds => forC f kk ds s0) (hp : PassesOwn (model X.prog X.w) X.A X.env X.xe) (hc : X.calm = true) (hg : PG X tg g)
    (htg : ∀ (W' : Wo) s d σ1 H1 v nx bk Q, Sees T W' σ1 H1 ((ρs s).set i (some (.cls (.ref p)))) → Is T W' H1 v d → f d s nx bk → (∀ σ2 ρ2, Sees T W' σ2 H1 (ρ2.set i (some (.cls (.ref p)))) → ρb s d ρ2 → Q σ2 H1) → g v σ1 H1 Q)
    (h0 : ∀ H2, NowO T W0 W H0 σ H2 ρ i l p us → NowO T W0 W H0 σ H2 (ρs s0) i (ls s0) p us)
    (hs : ∀ H2, NowO T W0 W H0 σ H2 ρ i l p us → ∀ d s nx bk (Nx Bk : L2.St → Hp → Prop) σ1 H1 ρ2 us1, NowO T (Wg W p us) W H2 σ1 H1 ρ2 i (ls s) p us1 → ρb s d ρ2 → (∀ s2 σ2 H3 us2, NowO T (Wg W p us) W H2 σ2 H3 (ρs s2) i (ls s2) p us2 → nx s2 → Nx σ2 H3) → (∀ s2 σ2 H3 us2, NowO T (Wg W p us) W H2 σ2 H3 (ρs s2) i (ls s2) p us2 → bk s2 → Bk σ2 H3) → f d s nx bk → Wss X body { D' with nx := Nx, ct := Nx, bk := Bk } σ1 H1)
    (hd : ∀ s σ1 H1 us1, NowO T W0 W H0 σ1 H1 (ρs s) i (ls s) p us1 → kk s → Wss X sts D' σ1 H1) (hfs : ∀ x, foldedSetIterable iter X.env x = pure x := by intro _; rfl) : Wss X (.For tg iter body [] pos :: sts) D' σ H := by
  obtain ⟨wi, pi, vi⟩ := hit _ hm
  refine ⟨_, pss_cons (ps_for hp hc pi hg wss_all hfs) wss_all, vi H (Up.refl _) o.now.inv _ fun J H2 ds G Y u2 i2 wk src hr => ?_⟩
  have oO := o.go u2 i2
  have back : ∀ {s σ1 H1 us1}, NowO T (Wg W p us) W H2 σ1 H1 (ρs s) i (ls s) p us1 → NowO T W0 W H0 σ1 H1 (ρs s) i (ls s) p us1 := fun b => ⟨oO.now.join2 b.now, b.con, b.nM⟩
  have oB := h0 H2 oO
  refine for_it wk (fun j σ1 H1 => ∃ s us1, NowO T (Wg W p us) W H2 σ1 H1 (ρs s) i (ls s) p us1 ∧ forC f kk (ds.drop j) s) ⟨s0, us, ⟨oB.now.base, oB.con, oB.nM⟩, by simpa using hr⟩ (fun j σ1 H1 _ hp => ?_) (fun j x σ1 H1 H3 hj hp hy => ?_) (fun σ1 H1 hp => ?_)
  · obtain ⟨s, us1, ns, _⟩ := hp
    exact src.st H1 ns.now.up
  · obtain ⟨s, us1, ns, pm⟩ := hp
    obtain ⟨d, hd', got⟩ := src.yl j H1 x H3 hj ns.now.up hy
    have hdrop : ds.drop j = d :: ds.drop (j + 1) := by
      rw [List.drop_eq_getElem_cons hj]
      rw [List.getElem?_eq_getElem hj] at hd'
      rw [Option.some.inj hd']
    rw [hdrop] at pm
    have item : Is T (Wg W p us1) H3 x d ∧ Up (Wg W p us1).toWld H1 H3 ∧ (Wg W p us1).I H3 := by
      rcases got with ⟨rfl, h⟩ | ⟨q, zs, l, rfl, rfl, hn, rfl, h⟩
      · exact ⟨Is.up ns.now.up h, Up.refl _, ns.now.inv⟩
      · exact ⟨.tup (not_M ns.now.inv hn) upd_same (Iss.up (W := Wg W p us1) (Up.new hn) (Iss.up ns.now.up h)), Up.new hn, I_new ns.now.inv hn⟩
    obtain ⟨hx, ux, ix⟩ := item
    have n3 := ns.go ux ix
    refine htg (Wg W p us1) s d σ1 H3 x _ _ _ n3.now.see hx pm fun σ2 ρ2 s2 b2 => ?_
    exact hs H2 oO d s _ _ _ _ σ2 H3 ρ2 us1 ⟨⟨n3.now.up, n3.now.rel, ix, s2⟩, n3.con, n3.nM⟩ b2 (fun s2 σ3 H4 us2 n4 h4 => ⟨s2, us2, n4, h4⟩) (fun s2 σ3 H4 us2 n4 h4 => hd s2 σ3 H4 us2 (back n4) h4) pm
  · obtain ⟨s, us1, ns, pm⟩ := hp
    rw [List.drop_length] at pm
    exact hd s σ1 H1 us1 (back ns) pm
theorem w_forO2 {S : Type} (j k : Nat) {x y : Str} (ρs : S → List (Option D)) (ls : S → List D) {f : D → D → S → (S → Prop) → (S → Prop) → Prop} {kk : S → Prop} (s0 : S) (o : NowO T W0 W H0 σ H ρ i l p us) (hit : Iw T X (Wg W p us) (.Tuple [.Name x px, .Name y py] kt pt) iter σ H mi) (hm : mi fun ds => forC (un2F f) kk ds s0) (nd : X.N.Nodup) (hp : PassesOwn (model X.prog X.w) X.A X.env X.xe) (hc : X.calm = true)
    (h0 : ∀ H2, NowO T W0 W H0 σ H2 ρ i l p us → NowO T W0 W H0 σ H2 (ρs s0) i (ls s0) p us)
    (hs : ∀ H2, NowO T W0 W H0 σ H2 ρ i l p us → ∀ d e s nx bk (Nx Bk : L2.St → Hp → Prop) σ1 H1 us1, NowO T (Wg W p us) W H2 σ1 H1 (((ρs s).set j (some d)).set k (some e)) i (ls s) p us1 → (∀ s2 σ2 H3 us2, NowO T (Wg W p us) W H2 σ2 H3 (ρs s2) i (ls s2) p us2 → nx s2 → Nx σ2 H3) → (∀ s2 σ2 H3 us2, NowO T (Wg W p us) W H2 σ2 H3 (ρs s2) i (ls s2) p us2 → bk s2 → Bk σ2 H3) → f d e s nx bk → Wss X body { D' with nx := Nx, ct := Nx, bk := Bk } σ1 H1)
    (hd : ∀ s σ1 H1 us1, NowO T W0 W H0 σ1 H1 (ρs s) i (ls s) p us1 → kk s → Wss X sts D' σ1 H1) (hji : j ≠ i := by decide) (hki : k ≠ i := by decide) (hN1 : X.N[j]? = some x := by rfl) (hN2 : X.N[k]? = some y := by rfl) (hx1 : L2.Loc X.env.scope x := by first | exact Or.inl rfl | exact Or.inr rfl) (hx2 : L2.Loc X.env.scope y := by first | exact Or.inl rfl | exact Or.inr rfl)
    (hf1 : X.fn x = true ∨ X.env.scope.names.lookup x = some .local := by first | exact .inl rfl | exact .inr rfl) (hf2 : X.fn y = true ∨ X.env.scope.names.lookup y = some .local := by first | exact .inl rfl | exact .inr rfl)
    (ha1 : (assignEach (.Name x px :: [.Name y py]) X.env).map (·.2) = assign (.Name x px) X.env :: (assignEach [.Name y py] X.env).map (·.2) := by rfl) (ha2 : (assignEach (.Name y py :: []) X.env).map (·.2) = assign (.Name y py) X.env :: (assignEach [] X.env).map (·.2) := by rfl)
    (hn : (assignEach [.Name x px, .Name y py] X.env).length = 2 := by rfl) (hst : (assignEach [.Name x px, .Name y py] X.env).findIdx? (·.1) = none := by rfl)
    (hfs : ∀ x, foldedSetIterable iter X.env x = pure x := by intro _; rfl) : Wss X (.For (.Tuple [.Name x px, .Name y py] kt pt) iter body [] pos :: sts) D' σ H :=
  w_forO (ρs := ρs) (ls := ls) (ρb := fun s d ρ2 => ∃ a b, d = .tup [a, b] ∧ ρ2 = ((ρs s).set j (some a)).set k (some b)) s0 o hit hm hp hc (pg_tup hc (pgs_cons (pg_name (i := j) nd hN1 hx1 hf1) (pgs_cons (pg_name (i := k) nd hN2 hx2 hf2) pgs_nil ha2) ha1) hn hst)
    (fun W' s d σ1 H1 v nx bk Q se hv h q => by
      unfold un2F at h
      split at h
      · cases hv with | tup nM e hs =>
        obtain ⟨u, w, rfl, h1, h2⟩ := iss2 hs
        refine ⟨_, _, rfl, SqT.of e, rfl, u, _, rfl, w, _, rfl, rfl, q _ _ ?_ ⟨_, _, rfl, rfl⟩⟩
        rw [List.set_comm _ _ hki, List.set_comm (l := ρs s) _ _ hji]
        exact (se.set j h1).set k h2
      · exact h.elim) h0
    (fun H2 nO d s nx bk Nx Bk σ1 H1 ρ2 us1 n2 e h1 h2 h3 => by
      obtain ⟨a, b, rfl, rfl⟩ := e
      exact hs H2 nO a b s nx bk Nx Bk σ1 H1 us1 n2 h1 h2 h3) hd hfs
theorem w_whileO {S : Type} (ρs : S → List (Option D)) (ls : S → List D) {cm : S → M Bool} {f : S → (S → Prop) → (S → Prop) → Prop} {kk : S → Prop} (s0 : S) (o : NowO T W0 W H0 σ H ρ i l p us) (hm : whC cm f kk s0) (hp : PassesOwn (model X.prog X.w) X.A X.env X.xe)
    (h0 : NowO T W0 W H0 σ H (ρs s0) i (ls s0) p us) (hc : ∀ s σ1 H1 us1, NowO T W0 W H0 σ1 H1 (ρs s) i (ls s) p us1 → Tw X (Wg W p us1) c σ1 H1 (cm s))
    (hs : ∀ s nx bk (Nx Bk : L2.St → Hp → Prop) σ1 H1 us1, NowO T W0 W H0 σ1 H1 (ρs s) i (ls s) p us1 → (∀ s2 σ2 H3 us2, NowO T W0 W H0 σ2 H3 (ρs s2) i (ls s2) p us2 → nx s2 → Nx σ2 H3) → (∀ s2 σ2 H3 us2, NowO T W0 W H0 σ2 H3 (ρs s2) i (ls s2) p us2 → bk s2 → Bk σ2 H3) → f s nx bk → Wss X body { D' with nx := Nx, ct := Nx, bk := Bk } σ1 H1)
    (hd : ∀ s σ1 H1 us1, NowO T W0 W H0 σ1 H1 (ρs s) i (ls s) p us1 → kk s → Wss X sts D' σ1 H1) : Wss X (.While c body [] pos :: sts) D' σ H := by
  obtain ⟨n0, hm⟩ := hm
  have hpt : PT X c (ttAny X c) := pt_any
  refine ⟨_, pss_cons (ps_while hp hpt wss_all) wss_all, fun m σ1 H1 => ∃ s us1, NowO T W0 W H0 σ1 H1 (ρs s) i (ls s) p us1 ∧ loopC cm f kk m s, ⟨n0, s0, us, h0, hm⟩, fun m σ1 H1 hw => ?_⟩
  obtain ⟨s, us1, ns, hl⟩ := hw
  cases m with
  | zero => exact hl.elim
  | succ m =>
    refine (hc s σ1 H1 us1 ns).go hl (Up.refl _) ns.now.inv fun b H2 u2 i2 pb => ?_
    cases b with
    | true => exact ⟨_, fun σ2 H2 z => z, hs s _ _ _ _ σ1 H2 us1 (ns.go u2 i2) (fun s2 σ2 H3 us2 n3 h3 => ⟨m, Nat.lt_succ_self m, s2, us2, n3, h3⟩) (fun s2 σ2 H3 us2 n3 h3 => hd s2 σ2 H3 us2 n3 h3) pb⟩
    | false => exact hd s σ1 H2 us1 (ns.go u2 i2) pb
end
end Uv
set_option Elab.async false
set_option linter.all false
set_option maxRecDepth 100000
set_option maxHeartbeats 4000000
namespace Uv
open PySem L2 Inn PySem.Spec PyProof.Rows
/-! ### results of which all is new -/
/-- new since H -/
abbrev IsN (T : Ct) (W : Wo) (H1 H2 : Hp) (v : V) (d : D) : Prop := IsD T (fun a => W.M a ∨ ∃ o, H1 a = some o) W.P H2 v d
abbrev IsNs (T : Ct) (W : Wo) (H1 H2 : Hp) (v : List V) (d : List D) : Prop := IsDs T (fun a => W.M a ∨ ∃ o, H1 a = some o) W.P H2 v d
section
variable {T : Ct} {X : Cx} {W W0 W1 : Wo} {σ σ1 : L2.St} {H H0 H1 H2 H3 : Hp} {pos p0 p1 p2 pa pc px py pt : Pos} {a b c e iter elt : Expr} {es : List Expr} {m ma mb mc : M D} {ml mi : M (List D)} {mt : M Bool} {ρ ρ1 ρ2 : List (Option D)} {i : Nat} {l : List D} {p : Addr} {us : List V} {D' : Ends} {sts body be : List Stmt} {nm : Str} {P : D → Prop} {PL : List D → Prop} {kt : Nat} {v : V} {d : D}
theorem IsN.is (h : IsN T W H1 H2 v d) : Is T W H2 v d := IsD.conv (fun a o n e => ⟨fun m => n (.inl m), e⟩) (fun _ h => h) h
theorem IsNs.is {vs : List V} {ds : List D} (h : IsNs T W H1 H2 vs ds) : Iss T W H2 vs ds := IsDs.conv (fun a o n e => ⟨fun m => n (.inl m), e⟩) (fun _ h => h) h
theorem IsN.up (h : IsN T W H1 H2 v d) (u : Up W.toWld H2 H3) : IsN T W H1 H3 v d := IsD.conv (fun a o n e => ⟨n, u a o (fun m => n (.inl m)) e⟩) (fun _ h => h) h
theorem IsNs.up {vs : List V} {ds : List D} (h : IsNs T W H1 H2 vs ds) (u : Up W.toWld H2 H3) : IsNs T W H1 H3 vs ds := IsDs.conv (fun a o n e => ⟨n, u a o (fun m => n (.inl m)) e⟩) (fun _ h => h) h
/-- new since earlier -/
theorem IsN.back (h : IsN T W H1 H2 v d) (u : Up W.toWld H H1) : IsN T W H H2 v d := IsD.conv (fun a o n e => ⟨fun z => z.elim (fun m => n (.inl m)) fun ⟨o', e'⟩ => n (.inr ⟨o', u a o' (fun m => n (.inl m)) e'⟩), e⟩) (fun _ h => h) h
theorem IsNs.back {vs : List V} {ds : List D} (h : IsNs T W H1 H2 vs ds) (u : Up W.toWld H H1) : IsNs T W H H2 vs ds := IsDs.conv (fun a o n e => ⟨fun z => z.elim (fun m => n (.inl m)) fun ⟨o', e'⟩ => n (.inr ⟨o', u a o' (fun m => n (.inl m)) e'⟩), e⟩) (fun _ h => h) h
def Fd (T : Ct) (X : Cx) (W : Wo) (e : Expr) (σ : L2.St) (H : Hp) (m : M D) : Prop :=
  ∀ R, m R → ∃ te, PE X e te ∧ ∀ H1, Up W.toWld H H1 → W.I H1 → ∀ Q : VK, (∀ v H2 d, Up W.toWld H1 H2 → W.I H2 → IsN T W H1 H2 v d → R d → Q v H2) → te σ H1 Q
def Lf (T : Ct) (X : Cx) (W : Wo) (es : List Expr) (σ : L2.St) (H : Hp) (m : M (List D)) : Prop :=
  ∀ R, m R → ∃ ta, PA X es ta ∧ ∀ H1, Up W.toWld H H1 → W.I H1 → ∀ Q : List V → Hp → Prop, (∀ vs H2 ds, Up W.toWld H1 H2 → W.I H2 → IsNs T W H1 H2 vs ds → R ds → Q vs H2) → ta σ H1 Q
theorem Fd.dw (h : Fd T X W e σ H m) : Dw T X W e σ H m := fun R hm => by
  obtain ⟨te, pe, ev⟩ := h R hm
  exact ⟨te, pe, fun H1 u hI Q q => ev H1 u hI Q fun v H2 d u2 i2 hd pd => q v H2 d u2 i2 hd.is pd⟩
theorem Fd.go {R : D → Prop} (h : Fd T X W e σ H m) (hm : m R) (u : Up W.toWld H H1) (hI : W.I H1) {Q : VK} (q : ∀ v H2 d, Up W.toWld H1 H2 → W.I H2 → IsN T W H1 H2 v d → R d → Q v H2) : teAny X e σ H1 Q := by
  obtain ⟨t, p, ev⟩ := h R hm
  exact ⟨t, p, ev H1 u hI Q q⟩
theorem Lf.go {R : List D → Prop} (h : Lf T X W es σ H ml) (hm : ml R) (u : Up W.toWld H H1) (hI : W.I H1) {Q : List V → Hp → Prop} (q : ∀ vs H2 ds, Up W.toWld H1 H2 → W.I H2 → IsNs T W H1 H2 vs ds → R ds → Q vs H2) : taAny X es σ H1 Q := by
  obtain ⟨t, p, ev⟩ := h R hm
  exact ⟨t, p, ev H1 u hI Q q⟩
theorem Fd.of {te : TE} (pe : PE X e te) (h : ∀ R, m R → ∀ H1, Up W.toWld H H1 → W.I H1 → ∀ Q : VK, (∀ v H2 d, Up W.toWld H1 H2 → W.I H2 → IsN T W H1 H2 v d → R d → Q v H2) → te σ H1 Q) : Fd T X W e σ H m := fun R hm => ⟨te, pe, h R hm⟩
theorem isN_new {o : HO} {q : Addr} (u : Up W.toWld H1 H2) (hI : W.I H2) (hq : H2 q = none) : ¬ (W.M q ∨ ∃ o, H1 q = some o) := fun z => z.elim (fun m => not_M hI hq m) fun ⟨o, e⟩ => by
  rw [none_back u hI hq] at e
  cases e
/-- an instance of flat fields -/
def mkF (c : Nat) (s : List D → M (List D)) (dds : List D) (ds : List D) : M D := fun R => s (ds ++ dds) fun fl => flats fl ≠ none ∧ R (.ins c fl)
theorem isNs_flats {N N' Pt : Addr → Prop} {H : Hp} : ∀ {vs : List V} {ds : List D}, IsDs T N Pt H vs ds → flats ds ≠ none → IsDs T N' Pt H vs ds
  | _, _, .nil, _ => .nil
  | _, d :: ds, .cons h t, hf => by
    unfold flats at hf
    split at hf
    · rename_i v vs e1 e2
      exact .cons (by cases h <;> first | exact .int | exact .bl | exact .str | exact .non | cases e1) (isNs_flats t (by rw [e2]; simp))
    · exact absurd rfl hf
theorem fd_make {k c n : Nat} {s : List D → M (List D)} {dds : List D} (B : MkD T X.prog X.w X.K X.mg X.base k c nm n s dds) (hr : Room (k + 1) X.A) (ha : Lw T X W (e :: es) σ H ml) (hg : Gl X nm := by rfl) (hdb : (nm == ("__debug__" : Str)) = false := by decide)
    (he : starEach (e :: es) X.env = (false, eval e X.env) :: starEach es X.env := by rfl) (hpl : (backTo pos (starEach es X.env)).any (·.1) = false := by rfl) : Fd T X W (.Call (.Name nm p0) (e :: es) [] pos) σ H (opN (mkF c s dds) ml) := by
  obtain ⟨f, fd, ps, dsv, dvs, F, M, hm, hbi, hdv, hd⟩ := B.ex
  refine .of (pe_make (E := E0) M F hr hg hm hbi hdv pass0 pa_any hdb he hpl) fun R hR H1 u hI Q q => ha.go hR u hI fun vs H2 ds u2 i2 hx px => fun x dx nx ndx ne => ?_
  have hs := hx.app (hd W H2)
  refine ⟨W, H2, x, dx, vs ++ dvs, ds ++ dds, _, rfl, nx, ndx, ne, rfl, i2, hs, B.len _ _ px, px, fun fl us' H' hr u i e hl' hs' => ⟨rfl, q _ H' _ (u2.trans u) i (.ins B.lt ?_ e hl' (isNs_flats hs' hr.1)) hr.2⟩⟩
  exact isN_new (o := .own x) u2 i2 nx
theorem fd_call {k n : Nat} {s : List D → M D} (B : DefD T X.prog X.w X.K X.mg X.base k nm true n s) (hr : Room k X.A) (ha : Lw T X W (e :: es) σ H ml) (hg : Gl X nm := by rfl) (hdb : (nm == ("__debug__" : Str)) = false := by decide)
    (he : starEach (e :: es) X.env = (false, eval e X.env) :: starEach es X.env := by rfl) (hpl : (backTo pos (starEach es X.env)).any (·.1) = false := by rfl) : Fd T X W (.Call (.Name nm p0) (e :: es) [] pos) σ H (opN s ml) := by
  obtain ⟨f, fd, ps, F, hm, hk, hb⟩ := B.ex
  refine .of (pe_call (E := E0) F hr hg hm hk hb .nil pass0 pa_any hdb he hpl) fun R hR H1 u hI Q q => ha.go hR u hI fun vs H2 ds u2 i2 hx px => ?_
  rw [List.append_nil]
  exact ⟨W, ds, R, hx, B.len ds R px, i2, px, fun y w H3 hy u3 i3 h3 hf => q w H3 y (u2.trans u3) i3 (IsN.back (hf rfl) u2) hy⟩
/-- return e, all new -/
theorem w_retF {Hs : Hp} {R : D → Prop} {Q : VK} (n : Now T W W Hs σ H ρ) (he : Fd T X W e σ H m) (hm : m R) (hq : ∀ y u H', R y → Up W.toWld Hs H' → W.I H' → Is T W H' u y → (true = true → IsD T (fun a => W.M a ∨ ∃ o, Hs a = some o) W.P H' u y) → Q u H') (hD : D'.rt = Q) : Wss X (.Return (some e) pos :: sts) D' σ H :=
  ⟨_, pss_cons (ps_ret pe_any) wss_all, he.go hm (Up.refl _) n.inv fun v H1 d u i1 hd pd => by
    show D'.rt v H1
    rw [hD]
    exact hq d v H1 pd (n.up.trans u) i1 hd.is fun _ => hd.back n.up⟩
end
/-! ### comprehensions of new items -/
structure LcN (T : Ct) (W : Wo) (H2 : Hp) (Dn : Addr) (ds : List D) (f : D → M D) (R : D → Prop) (i : Nat) (H' : Hp) : Prop where
  ex : ∃ us ys, Up (Wg W Dn us).toWld H2 H' ∧ (Wg W Dn us).I H' ∧ IsNs T (Wg W Dn us) H2 H' us ys ∧ us.length ≤ i ∧ mapD f (ds.drop i) fun zs => R (.lst (ys ++ zs))
section
variable {T : Ct} {X : Cx} {W W0 : Wo} {σ : L2.St} {H H0 : Hp} {pos p pc : Pos} {e elt tg iter : Expr} {es : List Expr} {m : M D} {mi : M (List D)} {ρ : List (Option D)} {scope : Scope} {own : List (Str × Nat)} {ifs : List Expr}
theorem fd_core {f : D → M D} {bnd : D → List (Option D) → Prop} {g : TG} (hit : Iw T X W tg iter σ H mi) (hS : Sees T W σ H ρ) (hc : X.calm = true) (hN : X.N.Nodup) (ok : BlkOk X.N X.env.scope scope own)
    (hg : ∀ (s : Shared) (H : Hp) (C : Addr) (cl : List (Str × Addr)) (fp : List Addr), PG (X.blk s H scope (compEnvC scope cl C X.env) fp) tg g)
    (htg : ∀ (W' : Wo) (H' : Hp) v d R (Q : L2.St → Hp → Prop), Sees T W' (L2.wipe σ (own.map (·.2))) H' (wipeD ρ (own.map (·.2))) → Is T W' H' v d → f d R → (∀ σ2 ρ2, Sees T W' σ2 H' ρ2 → bnd d ρ2 → L2.wipe σ2 (own.map (·.2)) = L2.wipe σ (own.map (·.2)) → Q σ2 H') → g v (L2.wipe σ (own.map (·.2))) H' Q)
    (he : ∀ (s : Shared) (Hb : Hp) (C : Addr) (cl : List (Str × Addr)) (fp : List Addr) (W' : Wo) σ2 H' d ρ2, Sees T W' σ2 H' ρ2 → bnd d ρ2 → Fd T (X.blk s Hb scope (compEnvC scope cl C X.env) fp) W' elt σ2 H' (f d))
    (hs : ∀ x, foldedSetIterable iter X.env x = pure x := by intro _; rfl) : Fd T X W (.ListComp elt [⟨tg, iter, [], 0⟩] scope pc) σ H (lcM mi f) := by
  intro R hm
  obtain ⟨wi, pi, vi⟩ := hit _ hm
  refine ⟨_, pe_lc (own := own) hc hN pi ok hg (fun _ _ _ _ _ => pts_nil) (fun _ _ _ _ _ => pe_tBx) hs, fun H1 u1 i1 Q q => vi H1 u1 i1 _ fun J H2 ds G Y u2 i2 wk src hr => ?_⟩
  obtain ⟨hl, hr⟩ := hr
  intro Dn hD
  have hnM : ¬ W.M Dn := not_M i2 hD
  have kp : ∀ {us H'}, Up (Wg W Dn us).toWld H2 H' → Up W.toWld H2 H' := fun {us H'} u a o n e => u a o (fun m => m.elim n fun z => ne_of_none e hD z) e
  refine lc_it wk (LcN T W H2 Dn ds f R) ?_ (fun i H' _ hp => ?_) (fun i x H' H'' hi hp hy => ?_) (fun H' hp => ?_)
  · exact ⟨[], [], fun a o n e => by rw [upd_ne (fun z => n (.inr z))]; exact e, ⟨I_new i2 hD, upd_same⟩, .nil, Nat.le_refl _, by simpa using hr⟩
  · obtain ⟨us, ys, pu, _⟩ := hp.ex
    exact src.st H' (kp pu)
  · obtain ⟨us, ys, pu, pI, ps, pl, pm⟩ := hp.ex
    obtain ⟨d, hd, got⟩ := src.yl i H' x H'' hi (kp pu) hy
    have hdrop : ds.drop i = d :: ds.drop (i + 1) := by
      rw [List.drop_eq_getElem_cons hi]
      rw [List.getElem?_eq_getElem hi] at hd
      rw [Option.some.inj hd]
    rw [hdrop] at pm
    have st : ∀ {v d'}, Is T W H2 v d' → Is T (Wg W Dn us) H' v d' := fun h => IsD.conv (fun a o n e => ⟨fun m => m.elim n fun z => ne_of_none e hD z, pu a o (fun m => m.elim n fun z => ne_of_none e hD z) e⟩) (pot_ne i2 hD) h
    have sts : ∀ {v d'}, Iss T W H2 v d' → Iss T (Wg W Dn us) H' v d' := fun h => IsDs.conv (fun a o n e => ⟨fun m => m.elim n fun z => ne_of_none e hD z, pu a o (fun m => m.elim n fun z => ne_of_none e hD z) e⟩) (pot_ne i2 hD) h
    have item : Is T (Wg W Dn us) H'' x d ∧ Up (Wg W Dn us).toWld H' H'' ∧ (Wg W Dn us).I H'' := by
      rcases got with ⟨rfl, h⟩ | ⟨p, zs, l, rfl, rfl, hn, rfl, h⟩
      · exact ⟨st h, Up.refl _, pI⟩
      · exact ⟨.tup (not_M pI hn) upd_same (Iss.up (Up.new hn) (sts h)), Up.new hn, I_new pI hn⟩
    obtain ⟨hx, ux, ix⟩ := item
    have sees : Sees T (Wg W Dn us) (L2.wipe σ (own.map (·.2))) H'' (wipeD ρ (own.map (·.2))) := by
      have h0 : Sees T W σ H2 ρ := (hS.up u1).up u2
      have h1 : Sees T (Wg W Dn us) σ H' ρ := ⟨h0.1, fun i d e => let ⟨v, e1, h1⟩ := h0.2 i d e; ⟨v, e1, st h1⟩⟩
      exact (h1.up ux).wipe _
    refine htg _ H'' x d _ _ sees hx pm fun σ2 ρ2 s2 b2 w2 => ⟨w2, ?_⟩
    unfold tYes
    dsimp only
    rw [if_pos rfl]
    intro s Hb C cl fp
    obtain ⟨te, pe, ev⟩ := he s Hb C cl fp _ σ2 H'' d ρ2 s2 b2 _ pm
    refine ⟨te, pe, ev H'' (Up.refl _) ix _ fun v H4 y u4 i4 hv hy' => ⟨us, i4.2, Nat.lt_of_le_of_lt pl (Nat.lt_of_lt_of_le hi hl), ?_⟩⟩
    have u14 := (pu.trans ux).trans u4
    refine ⟨us ++ [v], ys ++ [y], fun a o n e => ?_, ⟨I_mut i4.1 hnM, upd_same⟩, ?_, ?_, ?_⟩
    · rw [upd_ne (fun z => n (.inr z))]
      exact u14 a o n e
    · have hall : IsNs T (Wg W Dn us) H2 H4 (us ++ [v]) (ys ++ [y]) := ((ps.up ux).up u4).app (.cons (hv.back (pu.trans ux)) .nil)
      exact IsDs.conv (fun a o n e => ⟨n, by rw [upd_ne (fun z => n (.inl (.inr z)))]; exact e⟩) (fun _ h => h) hall
    · rw [List.length_append]
      exact Nat.succ_le_succ pl
    · have e : (fun zs => R (.lst ((ys ++ [y]) ++ zs))) = fun zs => R (.lst (ys ++ (y :: zs))) := by
        funext zs
        rw [List.append_assoc]
        rfl
      rw [e]
      exact hy'
  · obtain ⟨us, ys, pu, pI, ps, pl, pm⟩ := hp.ex
    rw [List.drop_length] at pm
    have pm : R (.lst (ys ++ [])) := pm
    rw [List.append_nil] at pm
    have old : ∀ a, (W.M a ∨ ∃ o, H1 a = some o) → ((Wg W Dn us).M a ∨ ∃ o, H2 a = some o) := fun a z => z.elim (fun m => .inl (.inl m)) fun ⟨o, e⟩ => by
      by_cases hM : W.M a
      · exact .inl (.inl hM)
      · exact .inr ⟨o, u2 a o hM e⟩
    refine q _ H' _ (u2.trans (kp pu)) pI.1 (.lst (isN_new (o := .own Dn) u2 i2 hD) pI.2 ?_) pm
    exact IsDs.conv (fun a o n e => ⟨fun z => n (old a z), e⟩) (fun _ h => h.1) ps
/-- [elt for x in it], all new -/
theorem fd_1 (i : Nat) {x : Str} {px : Pos} {f : D → M D} (hit : Iw T X W (.Name x px) iter σ H mi) (hS : Sees T W σ H ρ)
    (he : ∀ (s : Shared) (Hb : Hp) (C : Addr) (cl : List (Str × Addr)) (fp : List Addr) (W' : Wo) σ2 H' d, Sees T W' σ2 H' ((wipeD ρ [i]).set i (some d)) → Fd T (X.blk s Hb scope (compEnvC scope cl C X.env) fp) W' elt σ2 H' (f d))
    (hc : X.calm = true) (hN : X.N.Nodup) (ok : BlkOk X.N X.env.scope scope [(x, i)])
    (hg : ∀ (s : Shared) (H : Hp) (C : Addr) (cl : List (Str × Addr)) (fp : List Addr), PG (X.blk s H scope (compEnvC scope cl C X.env) fp) (.Name x px) (gName i)) (hs : ∀ x, foldedSetIterable iter X.env x = pure x := by intro _; rfl) :
    Fd T X W (.ListComp elt [⟨.Name x px, iter, [], 0⟩] scope pc) σ H (lcM mi f) :=
  fd_core (own := [(x, i)]) (bnd := fun d ρ2 => ρ2 = (wipeD ρ [i]).set i (some d)) hit hS hc hN ok hg
    (fun W' H' v d R Q s hv _ q => q _ _ (s.set i hv) rfl wipe1) (fun s Hb C cl fp W' σ2 H' d ρ2 se b => by subst b; exact he s Hb C cl fp W' σ2 H' d se) hs
end
end Uv
set_option Elab.async false
set_option linter.all false
set_option maxRecDepth 100000
set_option maxHeartbeats 4000000
namespace Uv
open PySem L2 Inn PySem.Spec PyProof.Rows
/-! ### what is new is set apart, to be written into later -/
def Wr (W : Wo) (Cs : Addr → Option HO) : Wo where
  M a := W.M a ∨ ∃ o, Cs a = some o
  I H := W.I H ∧ ∀ a o, Cs a = some o → H a = some o
  st h k := ⟨W.st h.1 fun a m => k a (.inl m), fun a o e => by rw [k a (.inr ⟨o, e⟩)]; exact h.2 a o e⟩
  al h m := m.elim (fun m => W.al h.1 m) fun ⟨o, e⟩ => ⟨o, h.2 _ o e⟩
  P a := W.P a ∧ Cs a = none
  pm h := .inl (W.pm h.1)
  rd i h := W.rd i.1 h.1
  wr x y i h h1 h2 h3 := ⟨W.wr x y i.1 h.1 h1 h2 h3, fun b o e => by
    rw [upd_ne (fun z => by rw [z, h.2] at e; cases e)]
    exact i.2 b o e⟩
structure NowR (T : Ct) (W0 W : Wo) (H0 : Hp) (σ : L2.St) (H : Hp) (ρ : List (Option D)) (i : Nat) (d : D) (Cs : Addr → Option HO) (v : V) : Prop where
  now : Now T W0 (Wr W Cs) H0 σ H (ρ.set i (some (.cls v)))
  con : IsD T (fun a => W.M a ∨ Cs a = none) W.P H v d
  dj : ∀ a, W.M a → Cs a = none
section
variable {T : Ct} {X : Cx} {W W0 W1 : Wo} {σ σ1 : L2.St} {H H0 H1 : Hp} {pos p0 p1 p2 pa pc px py pt : Pos} {a b c e iter : Expr} {es : List Expr} {m ma mb mc : M D} {ml mi : M (List D)} {mt : M Bool} {ρ ρ1 ρ2 : List (Option D)} {i : Nat} {l : List D} {p : Addr} {us : List V} {D' : Ends} {sts body be : List Stmt} {nm : Str} {P : D → Prop} {PL : List D → Prop} {kt : Nat} {d : D} {Cs : Addr → Option HO} {v : V}
theorem up_thawR (hI : (Wr W Cs).I H) (hI1 : (Wr W Cs).I H1) (u : Up (Wr W Cs).toWld H H1) : Up W.toWld H H1 := fun x o n e => by
  cases h : Cs x with
  | some c =>
    have e1 := hI.2 x c h
    have e2 := hI1.2 x c h
    rw [e] at e1
    cases e1
    exact e2
  | none => exact u x o (fun z => z.elim n fun ⟨o', z⟩ => by rw [h] at z; cases z) e
theorem up_frz (hI : W.I H) (nM : ∀ a o, Cs a = some o → ¬ W.M a ∧ H a = some o) (u : Up W.toWld H H1) (hI1 : W.I H1) : (Wr W Cs).I H1 := ⟨hI1, fun a o e => u a o (nM a o e).1 (nM a o e).2⟩
theorem NowR.nM (r : NowR T W0 W H0 σ H ρ i d Cs v) : ∀ a o, Cs a = some o → ¬ W.M a := fun a o e m => by rw [r.dj a m] at e; cases e
theorem NowR.next (r : NowR T W0 W H0 σ H ρ i d Cs v) (n : Now T (Wr W Cs) (Wr W Cs) H σ1 H1 ρ2) (e : ρ2 = ρ1.set i (some (.cls v)) := by rfl) : NowR T W0 W H0 σ1 H1 ρ1 i d Cs v := by
  subst e
  refine ⟨r.now.join2 n, IsD.conv (fun a o nn ee => ⟨nn, ?_⟩) (fun _ h => h) r.con, r.dj⟩
  cases h : Cs a with
  | none => exact absurd (Or.inr h) nn
  | some c =>
    have e1 := r.now.inv.2 a c h
    rw [ee] at e1
    cases e1
    exact n.inv.2 a o h
theorem NowR.go (r : NowR T W0 W H0 σ H ρ i d Cs v) (u : Up (Wr W Cs).toWld H H1) (hI : (Wr W Cs).I H1) : NowR T W0 W H0 σ H1 ρ i d Cs v := r.next (r.now.base.go u hI)
theorem NowR.val (r : NowR T W0 W H0 σ H ρ i d Cs v) (hρ : (ρ.set i (some (D.cls v)))[i]? = some (some (.cls v))) : σ[i]? = some (some v) := by
  obtain ⟨w, e, h⟩ := r.now.see.2 i _ hρ
  cases h
  exact e
theorem NowR.lone (r : NowR T W0 W H0 σ H ρ i d Cs v) : ∀ {w d'}, Is T (Wr W Cs) H w d' → Is T W H w d' := fun h => IsD.conv (fun a o nn ee => ⟨fun m => nn (.inl m), ee⟩) (fun a hp => hp.1) h
/-- let go -/
theorem NowR.end_ (r : NowR T W0 W H0 σ H ρ i d Cs v) (hρ : (ρ.set i (some (D.cls v)))[i]? = some (some (.cls v)) := by rfl) : Now T W0 W H0 σ H (ρ.set i (some d)) := by
  refine ⟨r.now.up, fun x o' n e m => r.now.rel x o' n e (.inl m), r.now.inv.1, ⟨by rw [r.now.see.1, List.length_set, List.length_set], fun j d' e => ?_⟩⟩
  by_cases hij : i = j
  · subst hij
    rw [List.getElem?_set_self (by
      have := (List.getElem?_eq_some_iff.mp hρ).1
      simpa using this)] at e
    cases e
    exact ⟨_, r.val hρ, IsD.conv (fun a o nn ee => ⟨fun m => nn (.inl m), ee⟩) (fun _ h => h) r.con⟩
  · rw [List.getElem?_set_ne hij] at e
    obtain ⟨w, e1, h1⟩ := r.now.see.2 j d' (by rw [List.getElem?_set_ne hij]; exact e)
    exact ⟨w, e1, r.lone h1⟩
theorem tw_thawR (r : NowR T W0 W H0 σ H ρ i d Cs v) (h : Tw X W c σ H mt) : Tw X (Wr W Cs) c σ H mt := fun R hm => by
  obtain ⟨t, pt, ev⟩ := h R hm
  refine ⟨t, pt, fun H1 u hI Q q => ev H1 (up_thawR r.now.inv hI u) hI.1 Q fun b H2 u2 i2 hb => q b H2 (fun x o' n e => u2 x o' (fun z => n (.inl z)) e) (up_frz hI.1 (fun a o e => ⟨r.nM a o e, hI.2 a o e⟩) u2 i2) hb⟩
/-- return while something is set apart -/
theorem w_retR {Hs : Hp} {R : D → Prop} {Q : VK} (r : NowR T W W Hs σ H ρ i d Cs v) (he : Dw T X (Wr W Cs) e σ H m) (hm : m R) (hq : ∀ y u H', R y → Up W.toWld Hs H' → W.I H' → Is T W H' u y → Q u H') (hD : D'.rt = Q) : Wss X (.Return (some e) pos :: sts) D' σ H :=
  ⟨_, pss_cons (ps_ret pe_any) wss_all, he.go hm (Up.refl _) r.now.inv fun w H1 d' u i1 hd pd => by
    show D'.rt w H1
    rw [hD]
    have r1 := r.go u i1
    exact hq d' w H1 pd r1.now.up i1.1 (r1.lone hd)⟩
/-- the slots but i and j, when what was set apart has been written into -/
theorem NowR.spoil {σ1 : L2.St} (r : NowR T W0 W H0 σ H ρ i d Cs v) (hI : W.I H1) (hu : ∀ a o, ¬ (Wr W Cs).M a → H a = some o → H1 a = some o) (hl : σ1.length = σ.length) (S : List Nat) (hσ : ∀ j, j ∉ S → σ1[j]? = σ[j]?) (hρl : ρ1.length = ρ.length) (hρ : ∀ j d, ρ1[j]? = some (some d) → j ∉ S ∧ j ≠ i ∧ ρ[j]? = some (some d)) : Now T W0 W H0 σ1 H1 ρ1 := by
  refine ⟨fun a o x y => hu a o (r.now.rel a o x y) (r.now.up a o x y), fun x o' n e m => r.now.rel x o' n e (.inl m), hI, ⟨by rw [hl, r.now.see.1, List.length_set, hρl], fun j d' e => ?_⟩⟩
  obtain ⟨h1, h2, h3⟩ := hρ j d' e
  obtain ⟨w, e1, hw⟩ := r.now.see.2 j d' (by rw [List.getElem?_set_ne (Ne.symm h2)]; exact h3)
  exact ⟨w, by rw [hσ j h1]; exact e1, IsD.conv (fun a o nn ee => ⟨fun m => nn (.inl m), hu a o nn ee⟩) (fun a hp => hp.1) hw⟩
/-- x.append(e): x is not looked at again -/
theorem w_spoil1 (r : NowR T W0 W H0 σ H ρ i (.lst l) Cs v) (he : Dw T X (Wr W Cs) e σ H m) (hm : m fun _ => l.length < sizeLine) (k : ∀ H1, Now T W0 W H0 σ H1 (ρ.set i none) → Wss X sts D' σ H1)
    (hρ : (ρ.set i (some (D.cls v)))[i]? = some (some (.cls v)) := by rfl) (hN : X.N[i]? = some nm := by rfl)
    (hvis : Vis X.env.scope nm := by first | exact Or.inl rfl | exact Or.inr (Or.inl rfl) | exact Or.inr (Or.inr rfl)) (hd : (nm == ("__debug__" : Str)) = false := by decide) (hcd : (nm == ("__classdict__" : Str)) = false := by decide)
    (hbase : attributeBase (.Name nm p0) "append" X.env (eval (.Name nm p0) X.env) = eval (.Name nm p0) X.env := by rfl)
    (hfew : ((backTo pc (starEach (e :: []) X.env)).all (fun x => !x.1) && (backToKw pc (keywordEach [] X.env)).all (fun x => x.1.isSome)
      && decide ((e :: ([] : List Expr)).length + ([] : List Keyword).length + (if ([] : List Keyword).isEmpty then 0 else 1) < 30)) = true := by rfl)
    (hline : (pa.endLine == pc.line) = true := by rfl)
    (hs : starEach (e :: []) X.env = (false, eval e X.env) :: starEach [] X.env := by rfl) (hpl : (backTo pc (starEach [] X.env)).any (·.1) = false := by rfl) (hsw : swapsWith (.Call (.Attribute (.Name nm p0) "append" pa) [e] [] pc) none pos.line X.env = pure false := by rfl) :
    Wss X (.Expr (.Call (.Attribute (.Name nm p0) "append" pa) [e] [] pc) pos :: sts) D' σ H := by
  refine ⟨_, pss_cons (ps_expr (pe_bm PySem.F.plainAttrs_list PySem.F.slot_list_append PySem.F.type_list_append mt_append (pe_var hN hvis hd hcd) (pa_cons pe_any pa_nil hs) hbase hfew hline hs hpl) hsw) wss_all, ?_⟩
  have hv := r.val hρ
  have con := r.con
  cases con with | @lst p us _ nn ep hs' =>
  refine ⟨.ref p, hv, .inl ⟨rfl, _, SqL.of ep⟩, he.go hm (Up.refl _) r.now.inv fun w H1 d u i1 hw pd => ?_⟩
  have r1 := r.go u i1
  have con := r1.con
  cases con with | @lst _ us1 _ nn1 ep1 hs1 =>
  have nM : ¬ W.M p := fun z => nn (.inl z)
  have inC : ∃ o, Cs p = some o := by
    cases h : Cs p with
    | none => exact absurd (Or.inr h) nn
    | some o => exact ⟨o, rfl⟩
  refine ⟨p, us1, w, rfl, rfl, ep1, by rw [hs1.len]; exact pd, k _ (r1.spoil (I_mut i1.1 nM) (fun a o x y => ?_) rfl [i] (fun _ _ => rfl) (by rw [List.length_set]) (fun j d' e => ?_))⟩
  · rw [upd_ne (fun z => x (.inr (by rw [z]; exact inC)))]
    exact y
  · by_cases hij : i = j
    · subst hij
      rw [List.getElem?_set] at e
      split at e
      · split at e <;> cases e
      · rename_i h; exact absurd rfl h
    · rw [List.getElem?_set_ne hij] at e
      exact ⟨by simpa using fun z => hij z.symm, fun z => hij z.symm, e⟩
end
end Uv
set_option Elab.async false
set_option linter.all false
set_option maxRecDepth 100000
set_option maxHeartbeats 4000000
namespace Uv
open PySem L2 Inn PySem.Spec PyProof.Rows
/-! ### for texts that are printed -/
inductive Lq : List (Option D) → List (Option D) → Prop
  | nil : Lq [] []
  | same {o : Option D} {a b : List (Option D)} (t : Lq a b) : Lq (o :: a) (o :: b)
  | none {o : Option D} {a b : List (Option D)} (t : Lq a b) : Lq (none :: a) (o :: b)
theorem Lq.len : ∀ {a b : List (Option D)}, Lq a b → a.length = b.length
  | _, _, .nil => rfl
  | _, _, .same t => congrArg Nat.succ t.len
  | _, _, .none t => congrArg Nat.succ t.len
theorem Lq.get : ∀ {a b : List (Option D)} {i : Nat} {d : D}, Lq a b → a[i]? = some (some d) → b[i]? = some (some d)
  | _, _, _, _, .nil, e => e
  | _, _, 0, _, .same t, e => e
  | _, _, i + 1, _, .same t, e => by simpa using t.get (by simpa using e)
  | _, _, 0, _, .none t, e => by simp at e
  | _, _, i + 1, _, .none t, e => by simpa using t.get (by simpa using e)
section
variable {T : Ct} {W W0 : Wo} {H H0 : Hp} {σ : L2.St} {ρ ρ' : List (Option D)} {i : Nat} {l : List D} {p : Addr} {us : List V} {d : D} {Cs : Addr → Option HO} {v : V}
theorem Now.as (n : Now T W0 W H0 σ H ρ) (e : ρ = ρ') : Now T W0 W H0 σ H ρ' := e ▸ n
theorem Now.cut (n : Now T W0 W H0 σ H ρ) (h : Lq ρ' ρ) : Now T W0 W H0 σ H ρ' := n.less h.len fun _ _ e => h.get e
theorem Sees.as (n : Sees T W σ H ρ) (e : ρ = ρ') : Sees T W σ H ρ' := e ▸ n
theorem NowO.as (o : NowO T W0 W H0 σ H ρ i l p us) (e : ρ.set i none = ρ'.set i none) : NowO T W0 W H0 σ H ρ' i l p us := by
  have e2 : ρ.set i (some (.cls (.ref p))) = ρ'.set i (some (.cls (.ref p))) := by
    have := congrArg (fun l => l.set i (some (D.cls (.ref p)))) e
    simpa only [List.set_set] using this
  exact ⟨o.now.as e2, o.con, o.nM⟩
theorem lq_set : ∀ {ρ' ρ : List (Option D)} (i : Nat) (c : Option D), Lq ρ' ρ → Lq (ρ'.set i c) (ρ.set i c)
  | _, _, _, _, .nil => .nil
  | _, _, 0, _, .same t => .same t
  | _, _, i + 1, c, .same t => .same (lq_set i c t)
  | _, _, 0, _, .none t => .same t
  | _, _, i + 1, c, .none t => .none (lq_set i c t)
theorem NowO.cut (o : NowO T W0 W H0 σ H ρ i l p us) (h : Lq ρ' ρ) : NowO T W0 W H0 σ H ρ' i l p us := ⟨o.now.cut (lq_set i _ h), o.con, o.nM⟩
theorem NowR.as (o : NowR T W0 W H0 σ H ρ i d Cs v) (e : ρ.set i none = ρ'.set i none) : NowR T W0 W H0 σ H ρ' i d Cs v := by
  have e2 : ρ.set i (some (.cls v)) = ρ'.set i (some (.cls v)) := by
    have := congrArg (fun l => l.set i (some (D.cls v))) e
    simpa only [List.set_set] using this
  exact ⟨o.now.as e2, o.con, o.dj⟩
end
/-- two, three values -/
def l2 (k : D → D → Prop) : List D → Prop
  | [a, b] => k a b
  | _ => False
def l3 (k : D → D → D → Prop) : List D → Prop
  | [a, b, c] => k a b c
  | _ => False
theorem l2_len {k : D → D → Prop} : ∀ xs, l2 k xs → xs.length = 2
  | [], h => h.elim
  | [_], h => h.elim
  | [_, _], _ => rfl
  | _ :: _ :: _ :: _, h => h.elim
theorem l3_len {k : D → D → D → Prop} : ∀ xs, l3 k xs → xs.length = 3
  | [], h => h.elim
  | [_], h => h.elim
  | [_, _], h => h.elim
  | [_, _, _], _ => rfl
  | _ :: _ :: _ :: _ :: _, h => h.elim
/-- no class has an own == -/
def noE : OwnE := fun _ _ => fail
theorem same_noE : SameOwn noE := fun _ _ _ _ _ _ _ _ R _ _ _ h => h.elim
/-! names of built-ins -/
theorem hv_len : bootBuiltins "len" = some (.builtin "len") := by decide +kernel
theorem hv_abs : bootBuiltins "abs" = some (.builtin "abs") := by decide +kernel
theorem hv_max : bootBuiltins "max" = some (.builtin "max") := by decide +kernel
theorem hv_min : bootBuiltins "min" = some (.builtin "min") := by decide +kernel
theorem hv_sum : bootBuiltins "sum" = some (.builtin "sum") := by decide +kernel
theorem hv_all : bootBuiltins "all" = some (.builtin "all") := by decide +kernel
theorem hv_any : bootBuiltins "any" = some (.builtin "any") := by decide +kernel
theorem hv_repr : bootBuiltins "repr" = some (.builtin "repr") := by decide +kernel
theorem hv_int : bootBuiltins "int" = some (.type "int") := by decide +kernel
theorem hv_bool : bootBuiltins "bool" = some (.type "bool") := by decide +kernel
theorem hv_list : bootBuiltins "list" = some (.type "list") := by decide +kernel
theorem hv_tuple : bootBuiltins "tuple" = some (.type "tuple") := by decide +kernel
end Uv
set_option Elab.async false
set_option linter.all false
set_option maxRecDepth 100000
set_option maxHeartbeats 4000000
namespace Uv
open PySem L2 Inn PySem.Spec PyProof.Rows
theorem len2 {α : Type} : ∀ {l : List α}, l.length = 2 → ∃ a b, l = [a, b]
  | [_, _], _ => ⟨_, _, rfl⟩
theorem len3 {α : Type} : ∀ {l : List α}, l.length = 3 → ∃ a b c, l = [a, b, c]
  | [_, _, _], _ => ⟨_, _, _, rfl⟩
theorem len4 {α : Type} : ∀ {l : List α}, l.length = 4 → ∃ a b c d, l = [a, b, c, d]
  | [_, _, _, _], _ => ⟨_, _, _, _, rfl⟩
def l4 (k : D → D → D → D → Prop) : List D → Prop
  | [a, b, c, d] => k a b c d
  | _ => False
section
variable {T : Ct} {X : Cx} {W W0 : Wo} {H H0 H1 : Hp} {σ σ1 : L2.St} {ρ ρ1 : List (Option D)} {i : Nat} {l l1 : List D} {p : Addr} {us us1 : List V} {d : D} {Cs : Addr → Option HO} {v : V} {D' : Ends} {sts : List Stmt} {a b : Expr} {ml : M (List D)} {mb : M D} {pos px py pt pt2 : Pos} {kt k2 : Nat} {n1 n2 : Str}
theorem NowO.under {ρ0 : List (Option D)} (nO : Now T W0 W H0 σ H ρ0) (o : NowO T W W H σ1 H1 ρ1 i l p us) : NowO T W0 W H0 σ1 H1 ρ1 i l p us := ⟨nO.join2 o.now, o.con, o.nM⟩
theorem NowR.under {ρ0 : List (Option D)} (nO : Now T W0 W H0 σ H ρ0) (o : NowR T W W H σ1 H1 ρ1 i d Cs v) : NowR T W0 W H0 σ1 H1 ρ1 i d Cs v := ⟨nO.join2 o.now, o.con, o.dj⟩
def spoilM (d : D) (m : M D) (k : Prop) : Prop := ∃ l, d = .lst l ∧ (m fun _ => l.length < sizeLine) ∧ k
/-- a, b = a new list, y -/
def parOM (ml : M (List D)) (mb : M D) (k : List D → D → Prop) : Prop := ml fun l => mb fun d => k l d
/-! instances in the making -/
theorem Now.ref0 (n : Now T W0 W H0 σ H ρ) {j : Nat} (hρ : ρ[j]? = some (some (.cls v)) := by rfl) : σ[j]? = some (some v) := by
  obtain ⟨w, e, h⟩ := n.see.2 j _ hρ
  cases h
  exact e
theorem Now.self0 (n : Now T W0 W H0 σ H ρ) (j : Nat) (h : σ[j]? = some (some v)) : Now T W0 W H0 σ H (ρ.set j (some (.cls v))) := by
  refine ⟨n.up, n.rel, n.inv, ⟨by rw [List.length_set]; exact n.see.1, fun j' d e => ?_⟩⟩
  by_cases hj : j = j'
  · subst hj
    rw [List.getElem?_set] at e
    split at e
    · split at e
      · cases e
        exact ⟨_, h, .cls⟩
      · cases e
    · rename_i z; exact absurd rfl z
  · rw [List.getElem?_set_ne hj] at e
    exact n.see.2 j' d e
theorem Bld.up {c : Nat} {dx : Addr} {fl : List D} (b : Bld T W c p dx H us fl) (n : Now T (Wi T W c p dx us) (Wi T W c p dx us) H σ1 H1 ρ1) : Bld T W c p dx H1 us fl := ⟨n.inv.2, b.le, b.nM, Iss.up n.up b.hs⟩
end
end Uv
set_option Elab.async false
set_option linter.all false
set_option maxRecDepth 100000
set_option maxHeartbeats 4000000
set_option exponentiation.threshold 20000
/-! the head's word, the law's own def, draws: for all laws -/
namespace Uv
open PySem L2 Inn PySem.Spec PyProof.Rows
theorem len1 {α : Type} : ∀ {l : List α}, l.length = 1 → ∃ a, l = [a]
  | [_], _ => ⟨_, rfl⟩
theorem fmod_lt {i j : Int} (h : 0 < j) : 0 ≤ i.fmod j ∧ i.fmod j < j := ⟨Int.fmod_nonneg_of_pos i h, Int.fmod_lt_of_pos i h⟩
theorem sm30 {i : Int} (h0 : 0 ≤ i) (h : i < 2 ^ 40) : i.natAbs < 2 ^ 40 := by omega
theorem cm40 {i j : Int} (h0 : 0 ≤ i) (h : i < 2 ^ 40) (k0 : 0 ≤ j) (k : j < 2 ^ 40) : CMulW i j := wide_mul (a := 40) (b := 40) (sm30 h0 h) (sm30 k0 k) (by decide) (by decide) (by decide)
theorem log9 {m : Int} (h0 : 0 < m) (h1 : m < 2 ^ 30) : m.natAbs.log2 < 9000 := by
  have := (Nat.log2_lt (n := m.natAbs) (k := 30) (by omega)).mpr (by omega)
  omega
/-- a world in which nothing changes -/
def WZ : Wld := ⟨fun _ => False, fun _ => True, fun _ _ => trivial, fun _ h => h.elim⟩
def PotR (y : List Int) : Prop := ∃ c d, y = [c, d] ∧ 0 ≤ c ∧ 0 ≤ d ∧ d < 2 ^ 40
def spLaw (K : PySem.W.Frag) : Sp := fun vs H Q _ => ∃ (a : Addr) (ns : List Int), vs = [.ref a] ∧ SqL K H a (ns.map V.int) ∧ ∀ H', Q (.bl true) H'
def intIn (K : PySem.W.Frag) (x : Str) (v : Int) : Bool := match PySem.W.nsIn K mainGlobals x with
  | some (some (.int i _)) => i == v
  | _ => false
def hasRec (K : PySem.W.Frag) (p : Addr) : Bool := match PySem.W.recIn K p "property" with
  | some (.ref _ :: _) => true
  | _ => false
section
variable {P : Program} {w : World} {K : PySem.W.Frag} {mg : Str → Option Value} {hp : Heap} {base : Heap} {k : Nat} {f : Addr} {fd : FuncData} {ps : List Str}
theorem intIn_ok {x : Str} {v : Int} (X : K.In hp) (G : hp.Ns mainGlobals mg) (e : intIn K x v = true) : ∃ t, mg x = some (.int v t) := by
  unfold intIn at e
  split at e
  · rename_i i t h
    have := eq_of_beq e
    subst this
    exact ⟨t, PySem.W.mg_of X G h⟩
  · cases e
theorem rec_of {C : Addr} {m : Str} (h : hasRec K (He.ma K C m) = true) : ∃ rest, PySem.W.recIn K (He.ma K C m) "property" = some (.ref (He5.wf K C "property" m) :: rest) := by
  unfold He5.wf
  unfold hasRec at h
  split at h
  · rename_i f r e
    exact ⟨r, by rw [e]⟩
  · cases h
theorem kwf_of {n qual : Str} {args : Arguments} {body : List Stmt} {scope : Scope} {ks : List Str} {π : List Nat} (F : FunD K n qual args body scope [] [] f fd)
    (h : ∀ (kV doc pm : Value) (an : Option Addr) (cdv ct : Value) (ws : List Value), ws.length = ks.length → bindArgs (PySem.W.fnOf n qual args body scope .none kV doc pm an cdv ct) ⟨[], ks.zip ws⟩ = pure (ps.zip (arr π ws))) : KwF K fd ps 0 ks (fun a b => arr π (a ++ b)) := by
  obtain ⟨oc, od, dV, kV, doc, pm, an, cdv, ct, osl, rfl, lk, hcd, hD, hK⟩ := F.ex
  rcases hD with ⟨_, rfl⟩ | ⟨e, _⟩
  · refine ⟨fun us ws => arr π (us ++ ws), ⟨fun s us ws _ l1 l2 => ?_, fun r1 r2 => Uv.Vals.arr (r1.append r2) π⟩⟩
    have : us = [] := List.length_eq_zero_iff.mp l1
    subst this
    rw [List.nil_append]
    exact .of_eq (h kV doc pm an cdv ct ws l2)
  · exact absurd rfl e
/-- a draw -/
theorem draw_D {T : Ct} {s : List D → M D} (F : FnOk P w K mg base CX0 k f fd ps (SpF DrawPre DrawR)) (hs : ∀ ds R, s ds R → ∃ a n, ds = [.pot a, .int n] ∧ 0 < n ∧ n ≤ 2 ^ 20 ∧ ∀ i : Int, 0 ≤ i → i < n → R (.int i)) : FnOk P w K mg base CX0 k f fd ps (SpD T false 2 s) :=
  FnOk.imp F fun vs H Q E ⟨W, ds, R, hx, hl, hI, hm, q⟩ => by
    obtain ⟨a, n, rfl, h0, h1, h⟩ := hs _ _ hm
    cases hx with | cons ha t =>
    cases t with | cons hb t =>
    cases t
    cases ha with | pot hp =>
    cases hb
    refine ⟨W.toWld, ⟨⟨a⟩, ⟨n, ⟨⟩⟩⟩, ⟨_, _, rfl, ⟨rfl, W.potW hp⟩, _, _, rfl, rfl, rfl⟩, hI, ⟨h0, by show n < 2 ^ 30; omega⟩, fun u H' y u1 i1 hy ey => ?_⟩
    cases hy
    exact q _ _ H' (h _ ey.1 ey.2) u1 i1 .int fun z => nomatch z
/-- one pot, in a world of nothing else that changes -/
def WoP (l : Addr) : Wo := { Wp l with
  P := fun a => a = l
  pm := fun h => h
  rd := fun {H a} i h => by
    subst h
    exact (pot_wp a).rd i
  wr := fun {H a} x y i h h1 h2 h3 => by
    subst h
    exact (pot_wp a).wr x y i h1 h2 h3 }
theorem wss_retD {T : Ct} {X : Cx} {e : Expr} {nm : Str} {p pos rp : Pos} {σ : L2.St} {H : Hp} {D' : Ends} {sts : List Stmt} {fr : Bool} {k : Nat} {s : List D → M D} (B : DefDG T X.prog X.w X.K X.mg X.base k nm fr 1 s) (hs : ∀ a R, R (.bl true) → s [.pot a] R) (hG : X.A.guards = some []) (hr : Room k X.A)
    (ha : Dx X WZ e σ H (fun y : List Int => PotR y)) (kk : ∀ H1, D'.rt (.bl true) H1) (hg : Gl X nm := by rfl) (hdb : (nm == ("__debug__" : Str)) = false := by decide) (he : starEach (e :: []) X.env = (false, eval e X.env) :: starEach [] X.env := by rfl) (hpl : (backTo pos (starEach [] X.env)).any (·.1) = false := by rfl) :
    Wss X (.Return (some (.Call (.Name nm p) [e] [] pos)) rp :: sts) D' σ H := by
  obtain ⟨te, pe, ev⟩ := ha
  obtain ⟨f, fd, ps, F, hm, hk, hb⟩ := B.ex
  have pc : PE X (.Call (.Name nm p) [e] [] pos) (fun σ H Q => taAny X [e] σ H fun vs H1 => SpD T fr 1 s vs H1 Q E0) := by
    refine ⟨fun pins s0 σ H Q I h => wpAny_Call_Name_kw (ld_glob I hg hm ?_ hdb)⟩
    exact PySem.W.callWith_K (h₀ := X.base) I.ok.mod.kin hk (thn (pa_any.run pos pins s0 σ H _ I h) fun us s1 ⟨vs, H1, I1, rv, q⟩ => ⟨I1.kIn, run_G F hG hr hb I1 rv q⟩) he hpl
  refine ⟨_, pss_cons (ps_ret pc) wss_all, ?_⟩
  refine ⟨_, pa_cons pe pa_nil he, ev H (Up.refl _) trivial _ fun v H1 y u1 i1 hy ry => ?_⟩
  obtain ⟨c, d, rfl, c0, d0, d1⟩ := ry
  obtain ⟨q, us, rfl, _, e1, h1⟩ := hy
  rw [ints_of h1] at e1
  exact ⟨WoP q, [.pot q], (· = .bl true), .cons (.pot rfl) .nil, rfl, ⟨c, d, c0, d0, d1, e1⟩, hs q _ rfl, fun y u H' ey _ _ hy' _ => by
    subst ey
    cases hy'
    exact kk H'⟩
end
/-! range with a step -/
def range3G : List D → M (List D)
  | [.int a, .int b, .int c] => fun R => ∃ n, RgC a b c n ∧ R ((List.range n).map fun i => .int (a + (i : Nat) * c))
  | _ => fail
theorem src_rangeC {T : Ct} {W : Wo} {H2 : Hp} {lo c : Int} {n : Nat} : Src T W H2 (fun _ => True) (YFn fun i => .int (lo + (i : Nat) * c)) ((List.range n).map fun i => .int (lo + (i : Nat) * c)) := ⟨fun _ _ => trivial, fun i H' x H'' hi u y => by
  rw [List.length_map, List.length_range] at hi
  refine ⟨.int (lo + (i : Nat) * c), by rw [List.getElem?_map, List.getElem?_range hi]; rfl, .inl ⟨y.1, ?_⟩⟩
  rw [y.2]
  exact .int⟩
theorem iss3 {T : Ct} {W : Wo} {H : Hp} {vs : List V} {a b c : D} (h : Iss T W H vs [a, b, c]) : ∃ u v w, vs = [u, v, w] ∧ Is T W H u a ∧ Is T W H v b ∧ Is T W H w c := by
  cases h with | cons h t =>
  cases t with | cons h2 t =>
  cases t with | cons h3 t =>
  cases t
  exact ⟨_, _, _, rfl, h, h2, h3⟩
theorem iw_range3 {T : Ct} {X : Cx} {W : Wo} {σ : L2.St} {H : Hp} {pos p : Pos} {a b c tg : Expr} {ml : M (List D)} (ha : Lw T X W [a, b, c] σ H ml) (hm : X.mg "range" = none) (hg : Gl X "range" := by rfl) (hs : starEach [a, b, c] X.env = (false, eval a X.env) :: starEach [b, c] X.env := by rfl) (hpl : (backTo pos (starEach [b, c] X.env)).any (·.1) = false := by rfl) :
    Iw T X W tg (.Call (.Name "range" p) [a, b, c] [] pos) σ H (walkM range3G ml) := fun R hR => ⟨_, pi_range3 hg hm pa_any hs hpl, fun H1 u hI Rk q => ha.go hR u hI fun vs H2 xs u2 i2 hx px => by
  unfold range3G at px
  split at px
  · rename_i i j k
    obtain ⟨v1, v2, v3, rfl, h, h2, h3⟩ := iss3 hx
    cases h
    cases h2
    cases h3
    obtain ⟨n, hn, pr⟩ := px
    refine ⟨i, j, k, n, rfl, hn, q _ H2 _ _ _ u2 i2 ?_ src_rangeC pr⟩
    rw [List.length_map, List.length_range]
    exact walk_rangeC
  · exact px.elim⟩
/-! equal to itself, at the top -/
theorem same_top {s : OwnE} (hs : SameOwn s) (n : Nat) : SameE (top1 s (eqD s n)) := by
  intro T N P H v a b R inj ha hb h
  unfold top1 at h
  split at h
  · exact sameD hs (n + 1) T N P H v _ _ R inj ha hb h
  · exact sameD hs (n + 1) T N P H v _ _ R inj ha hb h
  · exact same0 hs T N P H v _ _ R inj ha hb h
  · obtain ⟨z1, z2, e1, e2, sc, hr⟩ := cmpT_ex h
    have key : ∀ {x : D} {z : V}, IsD T N P H v x → flatD x = some z → v = z := by
      intro x z hx hz
      cases hx <;> cases hz <;> rfl
    rw [← key ha e1, ← key hb e2, decide_eq_true rfl] at hr
    exact hr
theorem same_at {s : OwnE} (hs : SameOwn s) {n i : Nat} {T : Ct} {N P : Addr → Prop} {H : Hp} {us : List V} {a b : List D} {x y : D} {R : D → Prop} (inj : ∀ c c', c < T.n → c' < T.n → T.at_ c = T.at_ c' → c = c') (ha : IsDs T N P H us a) (hb : IsDs T N P H us b) (hx : a[i]? = some x) (hy : b[i]? = some y) (h : eqT s n x y R) : R (.bl true) := by
  obtain ⟨v, e1, h1⟩ := ha.get hx
  obtain ⟨v', e2, h2⟩ := hb.get hy
  rw [e1] at e2
  cases e2
  exact same_top hs n T N P H v x y (fun k => R (.bl k)) inj h1 h2 h
end Uv
set_option Elab.async false
set_option linter.all false
set_option maxRecDepth 100000
set_option maxHeartbeats 4000000
namespace Uv
open PySem PySem.Spec PyProof.Rows L2 Inn
/-! the head: what it tells of the objects below n; its run in three looks -/
def atY (n : Nat) (ok : PySem.W.Frag → Bool) (fn : List He5.DefA) (g : Addr → Option Obj) : He.AlD := seeX ok fn (He.frG g (List.range n))
def hookY (n : Nat) (ok : PySem.W.Frag → Bool) (fn : List He5.DefA) : PySem.W.Hook where
  α := He.AlD
  obs := fun s => atY n ok fn s.heap.get?
  val := fun _ => dueX fn
  says := fun _ h => ∃ K : PySem.W.Frag, K.In h ∧ TellX ok fn K
  of := fun _ _ e => ⟨_, He.frG_in, e⟩
  keeps := fun _ _ _ ⟨K, hK, c⟩ k => ⟨K, PySem.W.Frag.In.keeps hK k, c⟩
theorem atY_eq {n : Nat} {ok : PySem.W.Frag → Bool} {fn : List He5.DefA} {g : Addr → Option Obj} {s : Shared} (h : ∀ a, g a = s.heap.get? a) : atY n ok fn g = (hookY n ok fn).obs s := by
  have e : g = s.heap.get? := funext h
  rw [e] <;> rfl
theorem three {α β γ δ : Type} {X : Option α} {f : α → β} {g : α → γ} {h : α → δ} {b : β} {c : γ} {d : δ} (h1 : X.map f = some b) (h2 : X.map g = some c) (h3 : X.map h = some d) : X.map (fun x => (f x, g x, h x)) = some (b, c, d) := by
  cases X with
  | none => cases h1
  | some x =>
    cases h1
    cases h2
    cases h3
    rfl
/-- the walk, the written part told by the head -/
theorem walkE {l : PySem.W.OpenLaw} {n k : Nat} {q : Program} {loose : List Str} {XP : (Str → Option Value) → Heap → Prop} {YP : World → Heap → Prop} {d : DefRec} {x : Str}
    (most : l.most = some n) (small : n ≤ sizeLine) (nodef : d.params.defaults = []) (rm : Room k callerA)
    (F : ∀ (w : World) (mg : Str → Option Value) (fa : Addr) (h : Heap), YP w h → h.Ns mainGlobals mg → mg d.name = some (.ref fa) → ∃ (K : PySem.W.Frag) (fd : FuncData) (sp : Sp), K.In h ∧ (∀ (s : Shared) (u : Value), BindsTo s fd ⟨[u], []⟩ [(x, u)]) ∧
      (∀ (T : Hp) (a : Addr) (ns : List Int), Only T → SqL K T a (ns.map V.int) → sp [.ref a] T (fun v _ => v = .bl true) E0) ∧ ∀ base : Heap, K.In base → base.Ns mainGlobals mg → FnG l.prog w K mg base k fa fd [x] sp) :
    PySem.W.WalkO q loose XP YP l.row.toRowW d [] (fun f vs => PySem.call f vs) := by
  refine Att.attach_call most nodef fun w s0 s1 mg mb fa o pm cd doc a vs ns G Y ho hd hcd named obj itz len ge => ?_
  obtain ⟨K, fd, sp, inK, bd, hs, all⟩ := F w mg fa _ Y G.T.g named
  exact callG inK G.T.g G.T.b G.T.builtins G.T.nolimit ge obj itz (Nat.le_trans len small) rm all bd fun T oT hS => hs T a ns oT hS
end Uv
set_option Elab.async false
set_option linter.all false
set_option maxRecDepth 100000
set_option maxHeartbeats 4000000
namespace Uv
open PySem L2 Inn PySem.Spec PyProof.Rows
section
variable {T : Ct} {X : Cx} {W W0 W1 : Wo} {σ σ1 : L2.St} {H H0 H1 : Hp} {pos p0 p1 p2 px py pt pt2 : Pos} {a b c e : Expr} {m ma mb mc : M D} {ρ ρ1 ρ2 : List (Option D)} {D' : Ends} {sts : List Stmt} {nm n1 n2 : Str} {kt k2 : Nat} {d : D} {v : V}
theorem NowR.mk' (i : Nat) (n : Now T W0 W H0 σ H ρ) (u : Up W.toWld H H1) (i1 : W.I H1) (hv : IsN T W H H1 v d) : NowR T W0 W H0 (σ.set i (some v)) H1 ρ i d (fun a => match H a with | some _ => none | none => H1 a) v := by
  have hC : ∀ a o, H a = some o → (fun a => match H a with | some _ => none | none => H1 a : Addr → Option HO) a = none := fun a o e => by simp [e]
  refine ⟨⟨fun a o x y => u a o (n.rel a o x y) (n.up a o x y), fun a o x y z => ?_, ⟨i1, fun a o e => ?_⟩, Sees.set ?_ i .cls⟩, ?_, fun a m => ?_⟩
  · rcases z with z | ⟨o', z⟩
    · exact n.rel a o x y z
    · rw [hC a o (n.up a o x y)] at z
      cases z
  · dsimp only at e
    split at e
    · cases e
    · exact e
  · refine ⟨n.see.1, fun j d ej => ?_⟩
    obtain ⟨w, e2, h2⟩ := n.see.2 j d ej
    refine ⟨w, e2, IsD.conv (fun a o nn ee => ⟨fun z => z.elim nn fun ⟨o', z⟩ => (by rw [hC a o ee] at z; cases z), u a o nn ee⟩) (fun a hp => ⟨hp, ?_⟩) h2⟩
    obtain ⟨o, eo⟩ := W.al n.inv (W.pm hp)
    exact hC a o eo
  · refine IsD.conv (fun a o nn ee => ⟨fun z => z.elim (fun m => nn (.inl m)) fun z => ?_, ee⟩) (fun _ h => h) hv
    have hn : H a = none := by
      cases e : H a with
      | none => rfl
      | some o' => exact absurd (Or.inr ⟨o', e⟩) nn
    simp [hn, ee] at z
  · obtain ⟨o, eo⟩ := W.al n.inv m
    exact hC a o eo
/-- a, b = x, a new value that is to be written into later -/
def parRM (ma mb : M D) (k : D → D → Prop) : Prop := ma fun x => mb fun y => k x y
theorem w_parR (i j : Nat) {K : D → D → Prop} (n : Now T W0 W H0 σ H ρ) (ha : Dw T X W a σ H ma) (hb : ∀ H', Sees T W σ H' ρ → Fd T X W b σ H' mb) (hm : parRM ma mb K) (hc : X.calm = true) (nd : X.N.Nodup)
    (k : ∀ x d Cs v σ1 H1, NowR T W0 W H0 σ1 H1 (ρ.set i (some x)) j d Cs v → K x d → Wss X sts D' σ1 H1) (hi : X.N[i]? = some n1 := by rfl) (hj : X.N[j]? = some n2 := by rfl) (hij : i ≠ j := by decide)
    (hx : X.env.scope.names.lookup n1 = some .local := by rfl) (hy : X.env.scope.names.lookup n2 = some .local := by rfl)
    (hw : swappedStores [.Tuple [.Name n1 px, .Name n2 py] kt pt] (.Tuple [a, b] k2 pt2) X.env = pure (some [n1, n2]) := by rfl)
    (hs : swapsWithSole [.Tuple [.Name n1 px, .Name n2 py] kt pt] (.Tuple [a, b] k2 pt2) pos.line X.env = pure false := by rfl)
    (hs1 : starEach (a :: [b]) X.env = (false, eval a X.env) :: starEach [b] X.env := by rfl) (hs2 : starEach (b :: []) X.env = (false, eval b X.env) :: starEach [] X.env := by rfl) :
    Wss X (.Assign [.Tuple [.Name n1 px, .Name n2 py] kt pt] (.Tuple [a, b] k2 pt2) pos :: sts) D' σ H := by
  refine ⟨_, pss_cons (ps_par hc nd hi hj hij hx hy (pa_cons pe_any (pa_cons pe_any pa_nil hs2) hs1) hw hs) wss_all, ha.go hm (Up.refl _) n.inv fun v H1 x u1 i1 hvx px => ?_⟩
  obtain ⟨te, pe, ev⟩ := hb H1 (n.see.up u1) _ px
  exact ⟨te, pe, ev H1 (Up.refl _) i1 _ fun w H2 d u2 i2 hd pd => ⟨v, w, rfl, k x d _ w _ H2 (NowR.mk' j ((n.go u1 i1).set i hvx) u2 i2 hd) pd⟩⟩
end
/-! any of ints -/
theorem truth_ints {prog : Program} {w : World} {A : Around} {ns : List Int} {its : List Value} (e : Vals (ns.map V.int) its) :
    TruthOf prog w A (fun i v => its.toArray[i]? = some v) (fun i => ns.getD i 0 != 0) := fun i v s Q E hv hq => by
  have hv' : its[i]? = some v := by simpa using hv
  cases hn : ns[i]? with
  | none =>
    have := e.none_of (i := i) (by rw [List.getElem?_map, hn]; rfl)
    rw [this] at hv'
    cases hv'
  | some n =>
    obtain ⟨u, hu, r⟩ := e.get (i := i) (x := .int n) (by rw [List.getElem?_map, hn]; rfl)
    rw [hu] at hv'
    cases hv'
    obtain ⟨t, rfl⟩ := r
    have hg : ns.getD i 0 = n := by rw [List.getD_eq_getElem?_getD, hn] <;> rfl
    have hq' : Q (ns.getD i 0 != 0) s := hq
    rw [hg] at hq'
    exact P.truthy_int hq'
theorem any_rangeI : ∀ bs : List Int, (List.range bs.length).any (fun i => bs.getD i 0 != 0) = bs.any (· != 0)
  | [] => rfl
  | b :: bs => by
    rw [List.length_cons, List.range_succ_eq_map, List.any_cons, List.any_map, List.any_cons, ← any_rangeI bs]
    all_goals rfl
theorem cr_anyI {X : Cx} (hc : X.calm = true) : CallR X (.builtin "any") (fun vs H Q => ∃ (a : Addr) (bs : List Int), vs = [V.ref a] ∧ SqL X.K H a (bs.map V.int) ∧ Q (.bl (bs.any (· != 0))) H) := by
  intro pins s σ H vs us Q I r h
  obtain ⟨a, bs, rfl, hs, q⟩ := h
  obtain ⟨its, rv, hl, _⟩ := I.list hs
  rw [Vals.ref1 r]
  refine call_any_walk (iter_any hl.isList fun s₂ e2 st hne => ?_)
  subst e2
  refine ⟨_, _, _, _, _, _, _, rfl, Walks.list (A := X.A.in1) (I.ok.hd hc) _ a hne its.toArray, st, truth_ints rv, fun h' tk hk => ?_⟩
  refine ⟨.bl _, H, I.kept fun b o eo => hk b o (fun hmem => ?_) (Heap.get?_push_of_some _ eo), ?_, q⟩
  · rcases List.mem_cons.mp hmem with e1 | hmem
    · exact absurd (e1 ▸ Heap.lt_size eo) (Nat.lt_irrefl _)
    · cases hmem
  · show Value.bool _ = Value.bool _
    rw [← any_rangeI, List.size_toArray, ← rv.length, List.length_map]
def anyG : List D → M D
  | [.lst l] => fun R => (∃ ns, blsOf l = some ns ∧ R (.bl (ns.any id))) ∨ ∃ ns, intsOf l = some ns ∧ R (.bl (ns.any (· != 0)))
  | _ => fail
theorem b_anyG {T : Ct} {X : Cx} {W : Wo} (hc : X.calm = true) : OpN T X W (.builtin "any") anyG := by
  intro pins s σ H us vs Q I r ⟨xs, R, hx, hI, hg, q⟩
  unfold anyG at hg
  split at hg
  · obtain ⟨u, rfl, h⟩ := iss1 hx
    cases h with | lst n e hd =>
    rcases hg with ⟨ns, e1, hg⟩ | ⟨ns, e1, hg⟩
    · rw [blsOf_V hd e1] at e
      exact cr_any hc pins s σ H _ _ Q I r ⟨_, ns, rfl, SqL.of e, q _ _ _ hg (Up.refl _) hI .bl⟩
    · rw [intsOf_V hd e1] at e
      exact cr_anyI hc pins s σ H _ _ Q I r ⟨_, ns, rfl, SqL.of e, q _ _ _ hg (Up.refl _) hI .bl⟩
  · exact hg.elim
end Uv
set_option Elab.async false
set_option linter.all false
set_option maxRecDepth 100000
set_option maxHeartbeats 4000000
namespace Uv
open PySem L2 Inn PySem.Spec PyProof.Rows
section
variable {T : Ct} {X : Cx} {W W0 W1 : Wo} {σ σ1 : L2.St} {H H0 H1 : Hp} {pos p0 p1 p2 px py pt pt2 : Pos} {a b c e : Expr} {m ma mb mc : M D} {ml : M (List D)} {ρ ρ1 ρ2 : List (Option D)} {D' : Ends} {sts : List Stmt} {nm n1 n2 : Str} {kt k2 i : Nat} {d : D} {v : V} {Cs : Addr → Option HO} {us : List V} {p : Addr} {l : List D}
theorem NowO.mk' (i : Nat) (n : Now T W0 W H0 σ H ρ) (hp : H p = none) (u : Up W.toWld H H1) (i1 : W.I H1) (e1 : H1 p = some (.lst us)) (hl : Iss T (Wg W p us) H1 us l) : NowO T W0 W H0 (σ.set i (some (.ref p))) H1 ρ i l p us := by
  have nM : ¬ W.M p := fun z => by
    obtain ⟨o, e⟩ := W.al n.inv z
    rw [hp] at e
    cases e
  have sees : Sees T (Wg W p us) σ H1 ρ := ⟨n.see.1, fun j d ej => by
    obtain ⟨v, e2, h2⟩ := n.see.2 j d ej
    exact ⟨v, e2, IsD.conv (fun a o nn ee => ⟨fun z => z.elim nn fun z => ne_of_none ee hp z, u a o nn ee⟩) (pot_ne n.inv hp) h2⟩⟩
  exact ⟨⟨fun a o x y => u a o (n.rel a o x y) (n.up a o x y), fun a o x y z => z.elim (n.rel a o x y) fun z => ne_of_none (n.up a o x y) hp z, ⟨i1, e1⟩, sees.set i .cls⟩, hl, nM⟩
/-- a, b = x, a new list -/
def parO2M (ma : M D) (ml : M (List D)) (k : D → List D → Prop) : Prop := ma fun x => ml fun l => k x l
theorem w_parO2 (i j : Nat) {K : D → List D → Prop} (n : Now T W0 W H0 σ H ρ) (ha : Dw T X W a σ H ma) (hb : ∀ H', Sees T W σ H' ρ → Fw T X W b σ H' ml) (hm : parO2M ma ml K) (hc : X.calm = true) (nd : X.N.Nodup)
    (k : ∀ x l p us σ1 H1, NowO T W0 W H0 σ1 H1 (ρ.set i (some x)) j l p us → K x l → Wss X sts D' σ1 H1) (hi : X.N[i]? = some n1 := by rfl) (hj : X.N[j]? = some n2 := by rfl) (hij : i ≠ j := by decide)
    (hx : X.env.scope.names.lookup n1 = some .local := by rfl) (hy : X.env.scope.names.lookup n2 = some .local := by rfl)
    (hw : swappedStores [.Tuple [.Name n1 px, .Name n2 py] kt pt] (.Tuple [a, b] k2 pt2) X.env = pure (some [n1, n2]) := by rfl)
    (hs : swapsWithSole [.Tuple [.Name n1 px, .Name n2 py] kt pt] (.Tuple [a, b] k2 pt2) pos.line X.env = pure false := by rfl)
    (hs1 : starEach (a :: [b]) X.env = (false, eval a X.env) :: starEach [b] X.env := by rfl) (hs2 : starEach (b :: []) X.env = (false, eval b X.env) :: starEach [] X.env := by rfl) :
    Wss X (.Assign [.Tuple [.Name n1 px, .Name n2 py] kt pt] (.Tuple [a, b] k2 pt2) pos :: sts) D' σ H := by
  refine ⟨_, pss_cons (ps_par hc nd hi hj hij hx hy (pa_cons pe_any (pa_cons pe_any pa_nil hs2) hs1) hw hs) wss_all, ha.go hm (Up.refl _) n.inv fun v H1 x u1 i1 hvx px => ?_⟩
  obtain ⟨te, pe, ev⟩ := hb H1 (n.see.up u1) _ px
  exact ⟨te, pe, ev H1 (Up.refl _) i1 _ fun p us H2 l hp u2 i2 e2 hl pl => ⟨v, .ref p, rfl, k x l p us _ H2 (NowO.mk' j ((n.go u1 i1).set i hvx) hp u2 i2 e2 hl) pl⟩⟩
end
end Uv
set_option Elab.async false
set_option linter.all false
set_option maxRecDepth 100000
set_option maxHeartbeats 4000000
namespace Uv
open PySem L2 Inn PySem.Spec PyProof.Rows
/-! ### a comprehension as the def's own list -/
def lcW (it : M (List D)) (f : D → M D) : M (List D) := fun R => it fun ds => ds.length ≤ sizeLine ∧ mapD f ds R
section
variable {T : Ct} {X : Cx} {W W0 : Wo} {σ : L2.St} {H H0 : Hp} {pos p pc : Pos} {e elt tg iter : Expr} {es : List Expr} {m : M D} {ml : M (List D)} {mi : M (List D)} {ρ : List (Option D)} {scope : Scope} {own : List (Str × Nat)} {ifs : List Expr} {nm : Str} {PL : List D → Prop} {D' : Ends} {sts : List Stmt}
end
end Uv
namespace Uv
open PySem L2 Inn PySem.Spec PyProof.Rows
/-! ### script[:1] -/
section
variable {X : Cx} {W : Wld} {σ : L2.St} {H : Hp} {pos p p2 pj : Pos} {a e i : Expr} {x : Scr X.K} {j : Nat}
end
end Uv
set_option Elab.async false
set_option linter.all false
set_option maxRecDepth 100000
set_option maxHeartbeats 4000000
namespace Uv
open PySem L2 Inn PySem.Spec PyProof.Rows
section
variable {T : Ct} {X : Cx} {W : Wo} {σ : L2.St} {H : Hp} {pos : Pos} {a b c e : Expr} {es : List Expr} {m ma mb : M D} {mt : M Bool} {ml : M (List D)}
/-! ### new tuples, one of two new ones -/
end
end Uv
set_option Elab.async false
set_option linter.all false
set_option maxRecDepth 100000
set_option maxHeartbeats 400000
namespace Uv
open PySem L2 Inn PySem.Spec PyProof.Rows
/-! ### o.f as a target -/
section
variable {T : Ct} {X : Cx} {W : Wo} {σ : L2.St} {H H0 H1 : Hp} {pos : Pos} {e : Expr} {m : M D} {ρ : List (Option D)} {c : Nat} {us : List V} {fl : List D} {p dx : Addr} {D' : Ends} {sts : List Stmt} {P : D → Prop} {nm f g : Str}
def unT (n : Nat) (k : List D → Prop) : D → Prop
  | .tup l => l.length = n ∧ k l
  | _ => False
end
end Uv
set_option Elab.async false
set_option linter.all false
set_option maxRecDepth 100000
set_option maxHeartbeats 400000
namespace Uv
open PySem L2 Inn PySem.Spec PyProof.Rows
/-! ### a loop while something is set apart: it is let go for the loop, and set apart anew behind it -/
inductive Lcv (T : Ct) (W : Wo) (H : Hp) : List (Option D) → List (Option D) → Prop
  | nil : Lcv T W H [] []
  | none {o : Option D} {a b : List (Option D)} (t : Lcv T W H a b) : Lcv T W H (none :: a) (o :: b)
  | cls {w : V} {d : D} {a b : List (Option D)} (h : Is T W H w d) (t : Lcv T W H a b) : Lcv T W H (some d :: a) (some (.cls w) :: b)
theorem Lcv.len {T : Ct} {W : Wo} {H : Hp} : ∀ {a b : List (Option D)}, Lcv T W H a b → a.length = b.length
  | _, _, .nil => rfl
  | _, _, .none t => congrArg Nat.succ t.len
  | _, _, .cls _ t => congrArg Nat.succ t.len
theorem Lcv.get {T : Ct} {W : Wo} {H : Hp} : ∀ {a b : List (Option D)} {i : Nat} {d : D}, Lcv T W H a b → a[i]? = some (some d) → ∃ w, b[i]? = some (some (.cls w)) ∧ Is T W H w d
  | _, _, _, _, .nil, e => by simp at e
  | _, _, 0, _, .none t, e => by simp at e
  | _, _, i + 1, _, .none t, e => by simpa using t.get (by simpa using e)
  | _, _, 0, _, .cls h t, e => by
    cases e
    exact ⟨_, rfl, h⟩
  | _, _, i + 1, _, .cls h t, e => by simpa using t.get (by simpa using e)
section
variable {T : Ct} {X : Cx} {W W0 W1 : Wo} {σ σ1 : L2.St} {H H0 H1 : Hp} {pos : Pos} {ρ ρ' ρ1 ρ2 : List (Option D)} {i : Nat} {d dj : D} {Cs : Addr → Option HO} {v : V}
theorem NowR.here (r : NowR T W0 W H0 σ H ρ i d Cs v) : Is T W H v d := IsD.conv (fun a o nn ee => ⟨fun m => nn (.inl m), ee⟩) (fun _ h => h) r.con
theorem NowR.thaw (r : NowR T W0 W H0 σ H ρ i d Cs v) : Now T W0 W H0 σ H (ρ.set i (some (.cls v))) :=
  ⟨r.now.up, fun a o x y m => r.now.rel a o x y (.inl m), r.now.inv.1, ⟨r.now.see.1, fun j dj e =>
    let ⟨w, e1, h⟩ := r.now.see.2 j dj e
    ⟨w, e1, r.lone h⟩⟩⟩
theorem NowR.refix (r : NowR T W0 W H0 σ H ρ i d Cs v) (n : Now T W W H σ1 H1 ρ2) (hc : Lcv T (Wr W Cs) H ρ' ρ2) (hi : ρ2[i]? = some (some (.cls v)) := by rfl) : NowR T W0 W H0 σ1 H1 ρ' i d Cs v := by
  have nW : ∀ {a}, ¬ (Wr W Cs).M a → ¬ W.M a := fun h m => h (.inl m)
  refine ⟨⟨fun a o x y => n.up a o (nW (r.now.rel a o x y)) (r.now.up a o x y), r.now.rel, ⟨n.inv, fun a o e => n.up a o (r.nM a o e) (r.now.inv.2 a o e)⟩, ⟨by rw [n.see.1, List.length_set, hc.len], fun j dj e => ?_⟩⟩, IsD.conv (fun a o nn ee => ⟨nn, n.up a o (fun m => nn (.inl m)) ee⟩) (fun _ h => h) r.con, r.dj⟩
  by_cases hij : i = j
  · subst hij
    rw [List.getElem?_set, if_pos rfl] at e
    split at e
    · cases e
      obtain ⟨w, e1, h⟩ := n.see.2 i _ hi
      exact ⟨w, e1, by cases h; exact .cls⟩
    · cases e
  · rw [List.getElem?_set_ne hij] at e
    obtain ⟨w, e2, h2⟩ := hc.get e
    obtain ⟨w', e1, h⟩ := n.see.2 j _ e2
    cases h
    exact ⟨_, e1, IsD.conv (fun a o nn ee => ⟨nn, n.up a o (nW nn) ee⟩) (fun _ h => h) h2⟩
theorem NowR.open_ (r : NowR T W0 W H0 σ H ρ i d Cs v) : ∃ w, Is T W H w d ∧ Now T W0 W H0 σ H (ρ.set i (some (.cls w))) ∧ ∀ {σ1 : L2.St} {H1 : Hp} {ρ2 : List (Option D)} (ρ' : List (Option D)), Now T W W H σ1 H1 ρ2 → Lcv T (Wr W Cs) H ρ' ρ2 → ρ2[i]? = some (some (.cls w)) → NowR T W0 W H0 σ1 H1 ρ' i d Cs w :=
  ⟨v, r.here, r.thaw, fun _ n hc hi => r.refix n hc hi⟩
end
end Uv
set_option Elab.async false
set_option linter.all false
set_option maxRecDepth 100000
set_option maxHeartbeats 4000000
namespace Uv
open PySem L2 Inn PySem.Spec PyProof.Rows
theorem l2_ap {k : D → D → Prop} {x y : D} (h : l2 k [x, y]) : k x y := h
theorem l3_ap {k : D → D → D → Prop} {x y z : D} (h : l3 k [x, y, z]) : k x y z := h
theorem l4_ap {k : D → D → D → D → Prop} {x y z w : D} (h : l4 k [x, y, z, w]) : k x y z w := h
/-! ### known tuples -/
section
variable {T : Ct} {X : Cx} {W W0 W1 : Wo} {σ σ1 : L2.St} {H H0 H1 : Hp} {pos p0 p1 p2 pa pa2 pc pc2 px py pt pt2 : Pos} {a b c e iter : Expr} {es : List Expr} {m ma mb mc : M D} {ml ml2 mi : M (List D)} {ρ ρ1 ρ2 : List (Option D)} {i j : Nat} {l l2 : List D} {p q : Addr} {us us2 : List V} {D' : Ends} {sts body : List Stmt} {nm n1 n2 : Str} {P : D → Prop} {kt k2 : Nat}
/-! own operators, the instance on the left -/
structure OpL (T : Ct) (P : Program) (w : World) (K : PySem.W.Frag) (mg : Str → Option Value) (base : Heap) (k c : Nat) (op : Operator) (s : List D → M D) : Prop where
  ex : ∃ f fr fd ps ro fo b, OpF K (T.at_ c) op f fr ro fo ∧ FnOk P w K mg base CX0 k f fd ps (SpD T b 2 s) ∧ L2.Binds K fd ps []
theorem NowO.named (o : NowO T W0 W H0 σ H ρ i l p us) : ∃ p us, NowO T W0 W H0 σ H ρ i l p us := ⟨p, us, o⟩
end
end Uv
set_option Elab.async false
set_option linter.all false
set_option maxRecDepth 100000
set_option maxHeartbeats 4000000
set_option exponentiation.threshold 20000
namespace K42
open PySem L2 Inn Uv
def top (i : Nat) : Stmt := PySem.Challenge.pw_innerfractions_k42_whole_products_of_for.main.body.getD i (.Pass ⟨0, 0, 0, 0⟩)
abbrev cm (i j : Nat) : Stmt := inClass (top i) j
def rc (K : PySem.W.Frag) : Addr := He.ga K "Ratio"
end K42
set_option Elab.async false
set_option linter.all false
set_option maxRecDepth 100000
set_option maxHeartbeats 0
set_option exponentiation.threshold 20000
namespace K42
open PySem PySem.Spec PyProof.Rows L2 Inn Uv
def facts (K : PySem.W.Frag) : List Bool := [
  He.eqO (PySem.W.nsIn K mainGlobals "len") (some none),
  He.eqO (PySem.W.nsIn K mainGlobals "abs") (some none),
  He.eqO (PySem.W.nsIn K mainGlobals "max") (some none),
  He.eqO (PySem.W.nsIn K mainGlobals "min") (some none),
  He.eqO (PySem.W.nsIn K mainGlobals "sum") (some none),
  He.eqO (PySem.W.nsIn K mainGlobals "all") (some none),
  He.eqO (PySem.W.nsIn K mainGlobals "any") (some none),
  He.eqO (PySem.W.nsIn K mainGlobals "divmod") (some none),
  He.eqO (PySem.W.nsIn K mainGlobals "repr") (some none),
  He.eqO (PySem.W.nsIn K mainGlobals "range") (some none),
  He.eqO (PySem.W.nsIn K mainGlobals "enumerate") (some none),
  He.eqO (PySem.W.nsIn K mainGlobals "zip") (some none),
  He.eqO (PySem.W.nsIn K mainGlobals "isinstance") (some none),
  He.eqO (PySem.W.nsIn K mainGlobals "int") (some none),
  He.eqO (PySem.W.nsIn K mainGlobals "bool") (some none),
  He.eqO (PySem.W.nsIn K mainGlobals "str") (some none),
  He.eqO (PySem.W.nsIn K mainGlobals "list") (some none),
  He.eqO (PySem.W.nsIn K mainGlobals "tuple") (some none),
  He.eqO (PySem.W.nsIn K mainGlobals "dict") (some none),
  He.eqO (PySem.W.nsIn K mainGlobals "gcd") (some (some (.builtin "math.gcd"))),
  He.eqO (PySem.W.nsIn K mainGlobals "lcm") (some (some (.builtin "math.lcm"))),
  intIn K "MOST_NUMBERS" 25,
  intIn K "MOST_DEGREE" 24,
  He.eqO (PySem.W.nsIn K mainGlobals "_law_trim") (some (some (.ref (He.ga K "_law_trim")))),
  He.eqO (PySem.W.nsIn K mainGlobals "_law_low") (some (some (.ref (He.ga K "_law_low")))),
  He.eqO (PySem.W.nsIn K mainGlobals "_law_over") (some (some (.ref (He.ga K "_law_over")))),
  He.eqO (PySem.W.nsIn K mainGlobals "_law_headed") (some (some (.ref (He.ga K "_law_headed")))),
  He.eqO (PySem.W.nsIn K mainGlobals "_law_plain") (some (some (.ref (He.ga K "_law_plain")))),
  He.eqO (PySem.W.nsIn K mainGlobals "_law_filled") (some (some (.ref (He.ga K "_law_filled")))),
  He.eqO (PySem.W.nsIn K mainGlobals "_law_sum") (some (some (.ref (He.ga K "_law_sum")))),
  He.eqO (PySem.W.nsIn K mainGlobals "_law_by") (some (some (.ref (He.ga K "_law_by")))),
  He.eqO (PySem.W.nsIn K mainGlobals "_law_times") (some (some (.ref (He.ga K "_law_times")))),
  He.eqO (PySem.W.nsIn K mainGlobals "_law_formed") (some (some (.ref (He.ga K "_law_formed")))),
  He.eqO (PySem.W.nsIn K mainGlobals "is_integer") (some (some (.ref (He.ga K "is_integer")))),
  He.eqO (PySem.W.nsIn K mainGlobals "_law_passed") (some (some (.ref (He.ga K "_law_passed")))),
  He.eqO (PySem.W.nsIn K mainGlobals "_law_given_form") (some (some (.ref (He.ga K "_law_given_form")))),
  He.eqO (PySem.W.nsIn K mainGlobals "_law_pick") (some (some (.ref (He.ga K "_law_pick")))),
  He.eqO (PySem.W.nsIn K mainGlobals "_law_entry") (some (some (.ref (He.ga K "_law_entry")))),
  He.eqO (PySem.W.nsIn K mainGlobals "_law_standing") (some (some (.ref (He.ga K "_law_standing")))),
  He.eqO (PySem.W.nsIn K mainGlobals "_law_form") (some (some (.ref (He.ga K "_law_form")))),
  He.eqO (PySem.W.nsIn K mainGlobals "ratios_over") (some (some (.ref (He.ga K "ratios_over")))),
  He.eqO (PySem.W.nsIn K mainGlobals "trimmed") (some (some (.ref (He.ga K "trimmed")))),
  He.eqO (PySem.W.nsIn K mainGlobals "told_shape") (some (some (.ref (He.ga K "told_shape")))),
  He.eqO (PySem.W.nsIn K mainGlobals "padded") (some (some (.ref (He.ga K "padded")))),
  He.eqO (PySem.W.nsIn K mainGlobals "content") (some (some (.ref (He.ga K "content")))),
  He.eqO (PySem.W.nsIn K mainGlobals "without_content") (some (some (.ref (He.ga K "without_content")))),
  He.eqO (PySem.W.nsIn K mainGlobals "negated") (some (some (.ref (He.ga K "negated")))),
  He.eqO (PySem.W.nsIn K mainGlobals "bare") (some (some (.ref (He.ga K "bare")))),
  He.eqO (PySem.W.nsIn K mainGlobals "shaped") (some (some (.ref (He.ga K "shaped")))),
  He.eqO (PySem.W.nsIn K mainGlobals "is_number") (some (some (.ref (He.ga K "is_number")))),
  He.eqO (PySem.W.nsIn K mainGlobals "is_poly") (some (some (.ref (He.ga K "is_poly")))),
  He.eqO (PySem.W.nsIn K mainGlobals "need_number") (some (some (.ref (He.ga K "need_number")))),
  He.eqO (PySem.W.nsIn K mainGlobals "pair_of") (some (some (.ref (He.ga K "pair_of")))),
  He.eqO (PySem.W.nsIn K mainGlobals "cleared") (some (some (.ref (He.ga K "cleared")))),
  He.eqO (PySem.W.nsIn K mainGlobals "is_form") (some (some (.ref (He.ga K "is_form")))),
  He.eqO (PySem.W.nsIn K mainGlobals "shape_of") (some (some (.ref (He.ga K "shape_of")))),
  He.eqO (PySem.W.nsIn K mainGlobals "noughts_behind") (some (some (.ref (He.ga K "noughts_behind")))),
  He.eqO (PySem.W.nsIn K mainGlobals "multiplied") (some (some (.ref (He.ga K "multiplied")))),
  He.eqO (PySem.W.nsIn K mainGlobals "product") (some (some (.ref (He.ga K "product")))),
  He.eqO (PySem.W.nsIn K mainGlobals "_law_told") (some (some (.ref (He.ga K "_law_told")))),
  He.eqO (PySem.W.nsIn K mainGlobals "scaled_by") (some (some (.ref (He.ga K "scaled_by")))),
  He.eqO (PySem.W.nsIn K mainGlobals "divided_bare") (some (some (.ref (He.ga K "divided_bare")))),
  He.eqO (PySem.W.nsIn K mainGlobals "rest_shape") (some (some (.ref (He.ga K "rest_shape")))),
  He.eqO (PySem.W.nsIn K mainGlobals "is_shape_divider") (some (some (.ref (He.ga K "is_shape_divider")))),
  He.eqO (PySem.W.nsIn K mainGlobals "divides") (some (some (.ref (He.ga K "divides")))),
  He.eqO (PySem.W.nsIn K mainGlobals "rest_form") (some (some (.ref (He.ga K "rest_form")))),
  He.eqO (PySem.W.nsIn K mainGlobals "_law_two_right") (some (some (.ref (He.ga K "_law_two_right")))),
  He.eqO (PySem.W.nsIn K mainGlobals "_law_rest") (some (some (.ref (He.ga K "_law_rest")))),
  He.eqO (PySem.W.nsIn K mainGlobals "_law_plus") (some (some (.ref (He.ga K "_law_plus")))),
  He.eqO (PySem.W.nsIn K mainGlobals "_law_scaled") (some (some (.ref (He.ga K "_law_scaled")))),
  He.eqO (PySem.W.nsIn K mainGlobals "_law_divided") (some (some (.ref (He.ga K "_law_divided")))),
  He.eqO (PySem.W.nsIn K mainGlobals "_law_goes_in") (some (some (.ref (He.ga K "_law_goes_in")))),
  He.eqO (PySem.W.nsIn K mainGlobals "are_like") (some (some (.ref (He.ga K "are_like")))),
  He.eqO (PySem.W.nsIn K mainGlobals "_law_any_right") (some (some (.ref (He.ga K "_law_any_right")))),
  He.eqO (PySem.W.nsIn K mainGlobals "_law_right") (some (some (.ref (He.ga K "_law_right")))),
  He.eqO (PySem.W.nsIn K mainGlobals "_law_pot") (some (some (.ref (He.ga K "_law_pot")))),
  He.eqO (PySem.W.nsIn K mainGlobals "_law_draw") (some (some (.ref (He.ga K "_law_draw")))),
  He.eqO (PySem.W.nsIn K mainGlobals "law") (some (some (.ref (He.ga K "law")))),
  He.eqO (PySem.W.specialIn K (.builtin "object.__class__") "__get__") (some (some (.builtin "getset_descriptor.__get__"))),
  decide (PySem.W.takesIn K (.builtin "object.__class__") = some true),
  He.eqO (PySem.W.nsIn K mainGlobals "Ratio") (some (some (.ref (rc K)))),
  PySem.W.plainGet K (rc K) Str.empty,
  PySem.W.hasDictIn K (rc K),
  PySem.W.plainOver K (rc K),
  He.eqO (PySem.W.findIn K (.ref (rc K)) "__setattr__") (some (some (.builtin "object.__setattr__"))),
  He.eqO (PySem.W.findIn K (.ref (rc K)) "__class__") (some (some (.builtin "object.__class__"))),
  decide (PySem.W.mroIn K (rc K) (.type "object") = some true),
  decide (PySem.W.kitOne K (.ref (rc K)) (.type "int") = some false),
  decide (PySem.W.kitOne K (.ref (rc K)) (.type "bool") = some false),
  decide (PySem.W.kitOne K (.ref (rc K)) (.type "str") = some false),
  decide (PySem.W.kitOne K (.ref (rc K)) (.type "list") = some false),
  decide (PySem.W.kitOne K (.ref (rc K)) (.type "tuple") = some false),
  decide (PySem.W.kitOne K (.ref (rc K)) (.type "dict") = some false),
  decide (PySem.W.kitOne K (.type "int") (.ref (rc K)) = some false),
  decide (PySem.W.kitOne K (.type "bool") (.ref (rc K)) = some false),
  decide (PySem.W.kitOne K (.type "NoneType") (.ref (rc K)) = some false),
  decide (PySem.W.kitOne K (.type "str") (.ref (rc K)) = some false),
  decide (PySem.W.kitOne K (.type "list") (.ref (rc K)) = some false),
  decide (PySem.W.kitOne K (.type "tuple") (.ref (rc K)) = some false),
  decide (PySem.W.kitOne K (.type "dict") (.ref (rc K)) = some false),
  decide (PySem.W.kitOne K (.ref (rc K)) (.ref (rc K)) = some true),
  He.eqO (PySem.W.findIn K (.ref (rc K)) "_top") (some none),
  He.eqO (PySem.W.findIn K (.ref (rc K)) "_bottom") (some none),
  PySem.W.makesIn K (rc K),
  PySem.W.keepIn K (.ref (rc K)),
  He.eqO (PySem.W.findIn K (.ref (rc K)) "__init__") (some (some (.ref (He.ma K (rc K) "__init__")))),
  PySem.W.isFn K (.ref (He.ma K (rc K) "__init__")),
  He.eqO (PySem.W.findIn K (.ref (rc K)) "top") (some (some (.ref (He.ma K (rc K) "top")))),
  He.eqO (PySem.W.specialIn K (.ref (He.ma K (rc K) "top")) "__get__") (some (some (.builtin "property.__get__"))),
  decide (PySem.W.takesIn K (.ref (He.ma K (rc K) "top")) = some true),
  hasRec K (He.ma K (rc K) "top"),
  He.eqO (PySem.W.findIn K (.ref (rc K)) "bottom") (some (some (.ref (He.ma K (rc K) "bottom")))),
  He.eqO (PySem.W.specialIn K (.ref (He.ma K (rc K) "bottom")) "__get__") (some (some (.builtin "property.__get__"))),
  decide (PySem.W.takesIn K (.ref (He.ma K (rc K) "bottom")) = some true),
  hasRec K (He.ma K (rc K) "bottom"),
  He.eqO (PySem.W.findIn K (.ref (rc K)) "__eq__") (some (some (.ref (He.ma K (rc K) "__eq__")))),
  PySem.W.isFn K (.ref (He.ma K (rc K) "__eq__")),
  He.eqO (PySem.W.findIn K (.ref (rc K)) "__ne__") (some (some (.builtin "object.__ne__"))),
  decide (PySem.W.subIn K (.type "int") (.ref (rc K)) = some false),
  decide (PySem.W.subIn K (.type "NoneType") (.ref (rc K)) = some false),
  decide (PySem.W.subIn K (.type "str") (.ref (rc K)) = some false),
  decide (PySem.W.subIn K (.ref (rc K)) (.type "int") = some false),
  He.eqO (PySem.W.findIn K (.ref (rc K)) "__repr__") (some (some (.ref (He.ma K (rc K) "__repr__")))),
  PySem.W.isFn K (.ref (He.ma K (rc K) "__repr__")),
  He.eqO (PySem.W.nsIn K mainGlobals "NotDivided") (some (some (.ref (He.ga K "NotDivided")))),
  PySem.W.excIn K (He.ga K "NotDivided") [.type "RuntimeError", .type "Exception", .type "BaseException", .type "object"] "RuntimeError.__new__",
  PySem.W.keepIn K (.ref (He.ga K "NotDivided")),
  decide (PySem.W.subIn K (.ref (He.ga K "NotDivided")) (.type "BaseException") = some true),
  decide (PySem.W.typeIn K (.ref (He.ga K "NotDivided")) = some (.type "type")),
  decide (PySem.W.exmOne K (.ref (He.ga K "NotDivided")) (.ref (He.ga K "NotDivided")) = some true)]
def okX (K : PySem.W.Frag) : Bool := (facts K).all id
def fn : List He5.DefA := [
  ⟨fun K => He.ga K "_law_trim", "_law_trim", "_law_trim", defArgs (top 54), defBody (top 54), defScope (top 54), [], []⟩,
  ⟨fun K => He.ga K "_law_low", "_law_low", "_law_low", defArgs (top 50), defBody (top 50), defScope (top 50), [], []⟩,
  ⟨fun K => He.ga K "_law_over", "_law_over", "_law_over", defArgs (top 53), defBody (top 53), defScope (top 53), [], []⟩,
  ⟨fun K => He.ga K "_law_headed", "_law_headed", "_law_headed", defArgs (top 65), defBody (top 65), defScope (top 65), [], []⟩,
  ⟨fun K => He.ga K "_law_plain", "_law_plain", "_law_plain", defArgs (top 63), defBody (top 63), defScope (top 63), [], []⟩,
  ⟨fun K => He.ga K "_law_filled", "_law_filled", "_law_filled", defArgs (top 64), defBody (top 64), defScope (top 64), [], []⟩,
  ⟨fun K => He.ga K "_law_sum", "_law_sum", "_law_sum", defArgs (top 51), defBody (top 51), defScope (top 51), [], []⟩,
  ⟨fun K => He.ga K "_law_by", "_law_by", "_law_by", defArgs (top 52), defBody (top 52), defScope (top 52), [], []⟩,
  ⟨fun K => He.ga K "_law_times", "_law_times", "_law_times", defArgs (top 57), defBody (top 57), defScope (top 57), [], []⟩,
  ⟨fun K => He.ga K "_law_formed", "_law_formed", "_law_formed", defArgs (top 66), defBody (top 66), defScope (top 66), [], []⟩,
  ⟨fun K => He.ga K "is_integer", "is_integer", "is_integer", defArgs (top 20), defBody (top 20), defScope (top 20), [], []⟩,
  ⟨fun K => He.ma K (rc K) "__init__", "__init__", "Ratio.__init__", defArgs (cm 22 0), defBody (cm 22 0), defScope (cm 22 0), [.int 1], []⟩,
  ⟨fun K => He.ga K "_law_passed", "_law_passed", "_law_passed", defArgs (top 59), defBody (top 59), defScope (top 59), [], []⟩,
  ⟨fun K => He.ga K "_law_given_form", "_law_given_form", "_law_given_form", defArgs (top 69), defBody (top 69), defScope (top 69), [], []⟩,
  ⟨fun K => He.ga K "_law_pick", "_law_pick", "_law_pick", defArgs (top 49), defBody (top 49), defScope (top 49), [], []⟩,
  ⟨fun K => He.ga K "_law_entry", "_law_entry", "_law_entry", defArgs (top 61), defBody (top 61), defScope (top 61), [], []⟩,
  ⟨fun K => He.ga K "_law_standing", "_law_standing", "_law_standing", defArgs (top 62), defBody (top 62), defScope (top 62), [], []⟩,
  ⟨fun K => He.ga K "_law_form", "_law_form", "_law_form", defArgs (top 68), defBody (top 68), defScope (top 68), [], []⟩,
  ⟨fun K => He.ga K "ratios_over", "ratios_over", "ratios_over", defArgs (top 27), defBody (top 27), defScope (top 27), [], []⟩,
  ⟨fun K => He.ga K "trimmed", "trimmed", "trimmed", defArgs (top 3), defBody (top 3), defScope (top 3), [], []⟩,
  ⟨fun K => He.ga K "told_shape", "told_shape", "told_shape", defArgs (top 35), defBody (top 35), defScope (top 35), [], []⟩,
  ⟨fun K => He.ga K "padded", "padded", "padded", defArgs (top 33), defBody (top 33), defScope (top 33), [], []⟩,
  ⟨fun K => He.ga K "content", "content", "content", defArgs (top 4), defBody (top 4), defScope (top 4), [], []⟩,
  ⟨fun K => He.ga K "without_content", "without_content", "without_content", defArgs (top 5), defBody (top 5), defScope (top 5), [], []⟩,
  ⟨fun K => He.ga K "negated", "negated", "negated", defArgs (top 7), defBody (top 7), defScope (top 7), [], []⟩,
  ⟨fun K => He.ga K "bare", "bare", "bare", defArgs (top 6), defBody (top 6), defScope (top 6), [], []⟩,
  ⟨fun K => He.ga K "shaped", "shaped", "shaped", defArgs (top 34), defBody (top 34), defScope (top 34), [], []⟩,
  ⟨fun K => He.ga K "is_number", "is_number", "is_number", defArgs (top 23), defBody (top 23), defScope (top 23), [], []⟩,
  ⟨fun K => He.ga K "is_poly", "is_poly", "is_poly", defArgs (top 31), defBody (top 31), defScope (top 31), [], []⟩,
  ⟨fun K => He.ga K "need_number", "need_number", "need_number", defArgs (top 24), defBody (top 24), defScope (top 24), [], []⟩,
  ⟨fun K => He.ga K "pair_of", "pair_of", "pair_of", defArgs (top 25), defBody (top 25), defScope (top 25), [], []⟩,
  ⟨fun K => He.ga K "cleared", "cleared", "cleared", defArgs (top 26), defBody (top 26), defScope (top 26), [], []⟩,
  ⟨fun K => He.ga K "is_form", "is_form", "is_form", defArgs (top 40), defBody (top 40), defScope (top 40), [], []⟩,
  ⟨fun K => He.ga K "shape_of", "shape_of", "shape_of", defArgs (top 41), defBody (top 41), defScope (top 41), [], []⟩,
  ⟨fun K => He.ga K "noughts_behind", "noughts_behind", "noughts_behind", defArgs (top 36), defBody (top 36), defScope (top 36), [], []⟩,
  ⟨fun K => He.ga K "multiplied", "multiplied", "multiplied", defArgs (top 9), defBody (top 9), defScope (top 9), [], []⟩,
  ⟨fun K => He.ga K "product", "product", "product", defArgs (top 43), defBody (top 43), defScope (top 43), [], []⟩,
  ⟨fun K => He5.wf K (rc K) "property" "top", "top", "Ratio.top", defArgs (cm 22 1), defBody (cm 22 1), defScope (cm 22 1), [], []⟩,
  ⟨fun K => He5.wf K (rc K) "property" "bottom", "bottom", "Ratio.bottom", defArgs (cm 22 2), defBody (cm 22 2), defScope (cm 22 2), [], []⟩,
  ⟨fun K => He.ga K "_law_told", "_law_told", "_law_told", defArgs (top 60), defBody (top 60), defScope (top 60), [], []⟩,
  ⟨fun K => He.ga K "scaled_by", "scaled_by", "scaled_by", defArgs (top 8), defBody (top 8), defScope (top 8), [], []⟩,
  ⟨fun K => He.ga K "divided_bare", "divided_bare", "divided_bare", defArgs (top 10), defBody (top 10), defScope (top 10), [], []⟩,
  ⟨fun K => He.ga K "rest_shape", "rest_shape", "rest_shape", defArgs (top 37), defBody (top 37), defScope (top 37), [], []⟩,
  ⟨fun K => He.ga K "is_shape_divider", "is_shape_divider", "is_shape_divider", defArgs (top 38), defBody (top 38), defScope (top 38), [], []⟩,
  ⟨fun K => He.ga K "divides", "divides", "divides", defArgs (top 44), defBody (top 44), defScope (top 44), [], []⟩,
  ⟨fun K => He.ga K "rest_form", "rest_form", "rest_form", defArgs (top 45), defBody (top 45), defScope (top 45), [], []⟩,
  ⟨fun K => He.ma K (rc K) "__eq__", "__eq__", "Ratio.__eq__", defArgs (cm 22 16), defBody (cm 22 16), defScope (cm 22 16), [], []⟩,
  ⟨fun K => He.ma K (rc K) "__repr__", "__repr__", "Ratio.__repr__", defArgs (cm 22 18), defBody (cm 22 18), defScope (cm 22 18), [], []⟩,
  ⟨fun K => He.ga K "_law_two_right", "_law_two_right", "_law_two_right", defArgs (top 71), defBody (top 71), defScope (top 71), [], []⟩,
  ⟨fun K => He.ga K "_law_rest", "_law_rest", "_law_rest", defArgs (top 70), defBody (top 70), defScope (top 70), [], []⟩,
  ⟨fun K => He.ga K "_law_plus", "_law_plus", "_law_plus", defArgs (top 55), defBody (top 55), defScope (top 55), [], []⟩,
  ⟨fun K => He.ga K "_law_scaled", "_law_scaled", "_law_scaled", defArgs (top 56), defBody (top 56), defScope (top 56), [], []⟩,
  ⟨fun K => He.ga K "_law_divided", "_law_divided", "_law_divided", defArgs (top 58), defBody (top 58), defScope (top 58), [], []⟩,
  ⟨fun K => He.ga K "_law_goes_in", "_law_goes_in", "_law_goes_in", defArgs (top 67), defBody (top 67), defScope (top 67), [], []⟩,
  ⟨fun K => He.ga K "are_like", "are_like", "are_like", defArgs (top 42), defBody (top 42), defScope (top 42), [], []⟩,
  ⟨fun K => He.ga K "_law_any_right", "_law_any_right", "_law_any_right", defArgs (top 72), defBody (top 72), defScope (top 72), [], []⟩,
  ⟨fun K => He.ga K "_law_right", "_law_right", "_law_right", defArgs (top 73), defBody (top 73), defScope (top 73), [], []⟩,
  ⟨fun K => He.ga K "_law_pot", "_law_pot", "_law_pot", defArgs (top 47), defBody (top 47), defScope (top 47), [], []⟩,
  ⟨fun K => He.ga K "_law_draw", "_law_draw", "_law_draw", defArgs (top 48), defBody (top 48), defScope (top 48), [], []⟩,
  ⟨fun K => He.ga K "law", "law", "law", defArgs (top 74), defBody (top 74), defScope (top 74), [], []⟩]
theorem okX.at {K : PySem.W.Frag} (h : okX K = true) (i : Nat) {b : Bool} (e : (facts K)[i]? = some b := by rfl) : b = true := List.all_eq_true.mp h b (List.mem_of_getElem? e)
abbrev R : PySem.W.OpenRow := PySem.W.OpenLaw.row PySem.Challenge.rw_innerfractions_k42_whole_products_of_for
abbrev hk : PySem.W.Hook := hookY 3000 okX fn
def ob (s : PySem.W.SharedT) : He.AlD := atY 3000 okX fn (HandSHeadRun.getT s)
theorem ob_eq (s : PySem.W.SharedT) : ob s = hk.obs s.abs := atY_eq (HandSHeadRun.getT_eq s)
abbrev names : List Str := [("_wall" : Str), ("__name__" : Str), ("trimmed" : Str), ("content" : Str), ("without_content" : Str), ("bare" : Str), ("negated" : Str), ("scaled_by" : Str), ("multiplied" : Str), ("divided_bare" : Str), ("LetterError" : Str), ("InvalidForm" : Str), ("InvalidNumber" : Str), ("StateError" : Str), ("NotDivided" : Str), ("LimitError" : Str), ("TooMany" : Str), ("is_integer" : Str), ("Ratio" : Str), ("is_number" : Str), ("need_number" : Str), ("pair_of" : Str), ("cleared" : Str), ("ratios_over" : Str), ("MOST_NUMBERS" : Str), ("MOST_DEGREE" : Str), ("is_poly" : Str), ("padded" : Str), ("shaped" : Str), ("told_shape" : Str), ("noughts_behind" : Str), ("rest_shape" : Str), ("is_shape_divider" : Str), ("is_form" : Str), ("shape_of" : Str), ("are_like" : Str), ("product" : Str), ("divides" : Str), ("rest_form" : Str), ("_law_pot" : Str), ("_law_draw" : Str), ("_law_pick" : Str), ("_law_low" : Str), ("_law_sum" : Str), ("_law_by" : Str), ("_law_over" : Str), ("_law_trim" : Str), ("_law_plus" : Str), ("_law_scaled" : Str), ("_law_times" : Str), ("_law_divided" : Str), ("_law_passed" : Str), ("_law_told" : Str), ("_law_entry" : Str), ("_law_standing" : Str), ("_law_plain" : Str), ("_law_filled" : Str), ("_law_headed" : Str), ("_law_formed" : Str), ("_law_goes_in" : Str), ("_law_form" : Str), ("_law_given_form" : Str), ("_law_rest" : Str), ("_law_two_right" : Str), ("_law_any_right" : Str), ("_law_right" : Str)]
open HandSHeadRun PySem.W in
theorem run1 (w : World) : (wholeF (fun p => stepQ (denQ tabQ) p w) fenceQ 30000 R.prog).map (fun x => looksF R.prog x.1.heap x.2.abs) = some true := by kernel_rfl
open HandSHeadRun PySem.W in
theorem run2 (w : World) : (wholeF (fun p => stepQ (denQ tabQ) p w) fenceQ 30000 R.prog).map (fun x => seenQ (view R.prog [0, 74]) names (importedModules R.prog.main.body) (fun s => xlAt (view R.prog [0, 74]) [] s && recOk R.toRowW.records s) x.2.abs) = some (openGood (view R.prog [0, 74]) names) := by kernel_rfl
open HandSHeadRun PySem.W in
theorem run3 (w : World) : (wholeF (fun p => stepQ (denQ tabQ) p w) fenceQ 30000 R.prog).map (fun x => ob x.2) = some (hk.val w) := by kernel_rfl
theorem run (w : World) : HandSHeadRun.RunEqI R (PySem.W.view R.prog [0, 74]) hk ob 30000 names w := by
  delta HandSHeadRun.RunEqI
  exact three (run1 w) (run2 w) (run3 w)
end K42
set_option Elab.async false
set_option linter.all false
set_option maxRecDepth 100000
set_option maxHeartbeats 4000000
set_option exponentiation.threshold 20000
namespace Sl
open PySem L2 Inn Uv
/-- a draw: any number below -/
def drawG : D → D → M D
  | .pot _, .int n => fun R => 0 < n ∧ n ≤ 2 ^ 20 ∧ ∀ i : Int, 0 ≤ i → i < n → R (.int i)
  | _, _ => fail
def s_law_draw : List D → M D
  | [a, b] => drawG a b
  | _ => fail
theorem len_s_law_draw : ∀ {ds : List D} {R : D → Prop}, s_law_draw ds R → ds.length = 2
  | [], _, h => h.elim
  | [_], _, h => h.elim
  | [_, _], _, _ => rfl
  | _ :: _ :: _ :: _, _, h => h.elim
def ratT (a b : Int) : Str := ([Str.ofString "Ratio(", Str.ofString (toString a), Str.ofString ", ", Str.ofString (toString b), Str.ofString ")"] : List Str).foldl (· ++ ·) Str.empty
def ownT : OwnT := fun c l => match c, l with
  | 0, [.int a, .int b] => if a.natAbs.log2 < 1920 ∧ b.natAbs.log2 < 1920 then some (ratT a b) else none
  | _, _ => none
def s_trimmed : List D → M D
  | [vnumbers] => fun R => (opN lenF (lcons (rt vnumbers) (lnil))) (fun vmany => whC (fun vs : D => andM (tst (op2 (gtG) (rt vs) (rt (D.int 0)))) (tst (op2 (eqT noE 1) (op2 ixG (rt vnumbers) (op2 (subG never2) (rt vs) (rt (D.int 1)))) (rt (D.int 0))))) (fun (vs : D) nx bk => (op2 (subG never2) (rt vs) (rt (D.int 1))) (fun vmany2 => nx vmany2)) (fun vs : D => (opN listF (lcons (slM (rt vnumbers) (noPart) (partM (rt vs))) (lnil))) R) (vmany : D))
  | _ => fail
theorem len_s_trimmed : ∀ {ds : List D} {R : D → Prop}, s_trimmed ds R → ds.length = 1
  | [], _, h => h.elim
  | [_], _, _ => rfl
  | _ :: _ :: _, _, h => h.elim
def s_negated : List D → M D
  | [vpoly] => fun R => (lcM (itemsM (rt vpoly)) (fun vnumber => op1 (negG fun _ => fail) (rt vnumber))) R
  | _ => fail
theorem len_s_negated : ∀ {ds : List D} {R : D → Prop}, s_negated ds R → ds.length = 1
  | [], _, h => h.elim
  | [_], _, _ => rfl
  | _ :: _ :: _, _, h => h.elim
def s_scaled_by : List D → M D
  | [vpoly, vnumber] => fun R => (iteM (tst (op2 (neT noE 1) (rt vnumber) (rt (D.int 0)))) (lcM (itemsM (rt vpoly)) (fun vpart => op2 (mulG never2) (rt vnumber) (rt vpart))) (lstM (lnil))) R
  | _ => fail
theorem len_s_scaled_by : ∀ {ds : List D} {R : D → Prop}, s_scaled_by ds R → ds.length = 2
  | [], _, h => h.elim
  | [_], _, h => h.elim
  | [_, _], _, _ => rfl
  | _ :: _ :: _ :: _, _, h => h.elim
def s_multiplied : List D → M D
  | [vfirst, vsecond] => fun R => (orM (notM (truM (rt vfirst))) (notM (truM (rt vsecond)))) (fun b => ite2 b ((lstM (lnil)) R) ((tupM (lcons (opN lenF (lcons (rt vsecond) (lnil))) (lcons (op2 (subG never2) (opN lenF (lcons (rt vfirst) (lnil))) (rt (D.int 1))) (lnil)))) (unP 2 (l2 (fun vwide vlast => (lcM (walkM range1G (lcons (op2 (addG never2) (rt vlast) (rt vwide)) (lnil))) (fun vpower => opN sumF (lcons (lcM (walkM range2G (lcons (opN maxF (lcons (rt (D.int 0)) (lcons (op2 (addG never2) (op2 (subG never2) (rt vpower) (rt vwide)) (rt (D.int 1))) (lnil)))) (lcons (op2 (addG never2) (opN minF (lcons (rt vpower) (lcons (rt vlast) (lnil)))) (rt (D.int 1))) (lnil)))) (fun vat => op2 (mulG never2) (op2 ixG (rt vfirst) (rt vat)) (op2 ixG (rt vsecond) (op2 (subG never2) (rt vpower) (rt vat))))) (lnil)))) R)))))
  | _ => fail
theorem len_s_multiplied : ∀ {ds : List D} {R : D → Prop}, s_multiplied ds R → ds.length = 2
  | [], _, h => h.elim
  | [_], _, h => h.elim
  | [_, _], _, _ => rfl
  | _ :: _ :: _ :: _, _, h => h.elim
def s_is_integer : List D → M D
  | [vvalue] => fun R => (andV (op1 (isiG [.int]) (rt vvalue)) (blM (notM (truM (op1 (isiG [.bool]) (rt vvalue)))))) R
  | _ => fail
theorem len_s_is_integer : ∀ {ds : List D} {R : D → Prop}, s_is_integer ds R → ds.length = 1
  | [], _, h => h.elim
  | [_], _, _ => rfl
  | _ :: _ :: _, _, h => h.elim
def s_Ratio_init : List D → M (List D)
  | [vtop, vbottom] => fun R => (notM (truM (opN s_is_integer (lcons (rt vtop) (lnil))))) (fun b => ite2 b (False) ((orM (notM (truM (opN s_is_integer (lcons (rt vbottom) (lnil))))) (tst (op2 (eqT noE 1) (rt vbottom) (rt (D.int 0))))) (fun b => ite2 b (False) ((iteM (tst (op2 (gtG) (rt vbottom) (rt (D.int 0)))) (opN gcdF (lcons (rt vtop) (lcons (rt vbottom) (lnil)))) (op1 (negG fun _ => fail) (opN gcdF (lcons (rt vtop) (lcons (rt vbottom) (lnil)))))) (fun vshared => (op2 fdivG (rt vtop) (rt vshared)) (fun v_top => (op2 fdivG (rt vbottom) (rt vshared)) (fun v_bottom => R [v_top, v_bottom])))))))
  | _ => fail
theorem len_s_Ratio_init : ∀ {ds : List D} {R : List D → Prop}, s_Ratio_init ds R → ds.length = 2
  | [], _, h => h.elim
  | [_], _, h => h.elim
  | [_, _], _, _ => rfl
  | _ :: _ :: _ :: _, _, h => h.elim
def s_Ratio_eq : List D → M D
  | [vself, vother] => fun R => (andV (op1 (isiG [(.c 0)]) (rt vother)) (andV (op2 (eqT noE 1) (op1 (fldI 0 0) (rt vself)) (op1 (fldI 0 0) (rt vother))) (op2 (eqT noE 1) (op1 (fldI 0 1) (rt vself)) (op1 (fldI 0 1) (rt vother))))) R
  | _ => fail
theorem len_s_Ratio_eq : ∀ {ds : List D} {R : D → Prop}, s_Ratio_eq ds R → ds.length = 2
  | [], _, h => h.elim
  | [_], _, h => h.elim
  | [_, _], _, _ => rfl
  | _ :: _ :: _ :: _, _, h => h.elim
def s_Ratio_repr : List D → M D
  | [vself] => fun R => (strM [rt (D.str "Ratio("), op1 fmtG (op1 (fldI 0 0) (rt vself)), rt (D.str ", "), op1 fmtG (op1 (fldI 0 1) (rt vself)), rt (D.str ")")]) R
  | _ => fail
theorem len_s_Ratio_repr : ∀ {ds : List D} {R : D → Prop}, s_Ratio_repr ds R → ds.length = 1
  | [], _, h => h.elim
  | [_], _, _ => rfl
  | _ :: _ :: _, _, h => h.elim
def s_is_number : List D → M D
  | [vvalue] => fun R => (orV (op1 (isiG [(.c 0)]) (rt vvalue)) (opN s_is_integer (lcons (rt vvalue) (lnil)))) R
  | _ => fail
theorem len_s_is_number : ∀ {ds : List D} {R : D → Prop}, s_is_number ds R → ds.length = 1
  | [], _, h => h.elim
  | [_], _, _ => rfl
  | _ :: _ :: _, _, h => h.elim
def s_need_number : List D → M D
  | [vvalue] => fun R => (notM (truM (opN s_is_number (lcons (rt vvalue) (lnil))))) (fun b => ite2 b (False) (R D.non))
  | _ => fail
theorem len_s_need_number : ∀ {ds : List D} {R : D → Prop}, s_need_number ds R → ds.length = 1
  | [], _, h => h.elim
  | [_], _, _ => rfl
  | _ :: _ :: _, _, h => h.elim
def s_pair_of : List D → M D
  | [vnumber] => fun R => (truM (op1 (isiG [(.c 0)]) (rt vnumber))) (fun b => ite2 b ((tupM (lcons (op1 (fldI 0 0) (rt vnumber)) (lcons (op1 (fldI 0 1) (rt vnumber)) (lnil)))) R) ((opN s_need_number (lcons (rt vnumber) (lnil))) (fun _ => (tupM (lcons (rt vnumber) (lcons (rt (D.int 1)) (lnil)))) R)))
  | _ => fail
theorem len_s_pair_of : ∀ {ds : List D} {R : D → Prop}, s_pair_of ds R → ds.length = 1
  | [], _, h => h.elim
  | [_], _, _ => rfl
  | _ :: _ :: _, _, h => h.elim
def s_cleared : List D → M D
  | [vnumbers] => fun R => (lcM (itemsM (rt vnumbers)) (fun vnumber => opN s_pair_of (lcons (rt vnumber) (lnil)))) (fun vpairs => (rt (D.int 1)) (fun vbelow => (itemsM (rt vpairs)) (fun ds => forC (un2F (fun v_ vbottom (vs : D) nx bk => (opN lcmF (lcons (rt vs) (lcons (rt vbottom) (lnil)))) (fun vbelow2 => nx vbelow2))) (fun vs : D => (tupM (lcons (lcM (itemsM (rt vpairs)) (un2 (fun vtop vbottom2 => op2 (mulG never2) (rt vtop) (op2 fdivG (rt vs) (rt vbottom2))))) (lcons (rt vs) (lnil)))) R) ds (vbelow : D))))
  | _ => fail
theorem len_s_cleared : ∀ {ds : List D} {R : D → Prop}, s_cleared ds R → ds.length = 1
  | [], _, h => h.elim
  | [_], _, _ => rfl
  | _ :: _ :: _, _, h => h.elim
def s_ratios_over : List D → M D
  | [vintegers, vbelow] => fun R => (lcM (itemsM (rt vintegers)) (fun vnumber => opN (mkF 0 s_Ratio_init []) (lcons (rt vnumber) (lcons (rt vbelow) (lnil))))) R
  | _ => fail
theorem len_s_ratios_over : ∀ {ds : List D} {R : D → Prop}, s_ratios_over ds R → ds.length = 2
  | [], _, h => h.elim
  | [_], _, h => h.elim
  | [_, _], _, _ => rfl
  | _ :: _ :: _ :: _, _, h => h.elim
def s_is_poly : List D → M D
  | [vvalue] => fun R => (orM (notM (truM (op1 (isiG [.list, .tuple]) (rt vvalue)))) (tst (op2 (gtG) (opN lenF (lcons (rt vvalue) (lnil))) (rt (D.int 25))))) (fun b => ite2 b ((rt (D.bl false)) R) ((opN allF (lcons (lcM (itemsM (rt vvalue)) (fun vnumber => opN s_is_number (lcons (rt vnumber) (lnil)))) (lnil))) R))
  | _ => fail
theorem len_s_is_poly : ∀ {ds : List D} {R : D → Prop}, s_is_poly ds R → ds.length = 1
  | [], _, h => h.elim
  | [_], _, _ => rfl
  | _ :: _ :: _, _, h => h.elim
def s_law_pick : List D → M D
  | [vpot_here, vsome] => fun R => (op2 ixG (rt vsome) (opN s_law_draw (lcons (rt vpot_here) (lcons (opN lenF (lcons (rt vsome) (lnil))) (lnil))))) R
  | _ => fail
theorem len_s_law_pick : ∀ {ds : List D} {R : D → Prop}, s_law_pick ds R → ds.length = 2
  | [], _, h => h.elim
  | [_], _, h => h.elim
  | [_, _], _, _ => rfl
  | _ :: _ :: _ :: _, _, h => h.elim
def s_law_low : List D → M D
  | [vtop, vbottom] => fun R => (lcons (opN absF (lcons (rt vtop) (lnil))) (lcons (opN absF (lcons (rt vbottom) (lnil))) (lnil))) (l2 (fun vone vother => whC (fun vs : D × D => tst (op2 (gtG) (rt vs.2) (rt (D.int 0)))) (fun (vs : D × D) nx bk => (lcons (rt vs.2) (lcons (op2 modG (opN intF (lcons (rt vs.1) (lnil))) (rt vs.2)) (lnil))) (l2 (fun vone2 vother2 => nx (vone2, vother2)))) (fun vs : D × D => (iteM (tst (op2 (gtG) (rt vbottom) (rt (D.int 0)))) (rt vs.1) (op2 (subG never2) (rt (D.int 0)) (rt vs.1))) (fun vone3 => (tupM (lcons (op2 fdivG (rt vtop) (rt vone3)) (lcons (op2 fdivG (rt vbottom) (rt vone3)) (lnil)))) R)) ((vone, vother) : D × D)))
  | _ => fail
theorem len_s_law_low : ∀ {ds : List D} {R : D → Prop}, s_law_low ds R → ds.length = 2
  | [], _, h => h.elim
  | [_], _, h => h.elim
  | [_, _], _, _ => rfl
  | _ :: _ :: _ :: _, _, h => h.elim
def s_law_plus : List D → M D
  | [va, vb] => fun R => (opN s_law_low (lcons (op2 (addG never2) (op2 (mulG never2) (op2 ixG (rt va) (rt (D.int 0))) (op2 ixG (rt vb) (rt (D.int 1)))) (op2 (mulG never2) (op2 ixG (rt vb) (rt (D.int 0))) (op2 ixG (rt va) (rt (D.int 1))))) (lcons (op2 (mulG never2) (op2 ixG (rt va) (rt (D.int 1))) (op2 ixG (rt vb) (rt (D.int 1)))) (lnil)))) R
  | _ => fail
theorem len_s_law_plus : ∀ {ds : List D} {R : D → Prop}, s_law_plus ds R → ds.length = 2
  | [], _, h => h.elim
  | [_], _, h => h.elim
  | [_, _], _, _ => rfl
  | _ :: _ :: _ :: _, _, h => h.elim
def s_law_by : List D → M D
  | [va, vb] => fun R => (opN s_law_low (lcons (op2 (mulG never2) (op2 ixG (rt va) (rt (D.int 0))) (op2 ixG (rt vb) (rt (D.int 0)))) (lcons (op2 (mulG never2) (op2 ixG (rt va) (rt (D.int 1))) (op2 ixG (rt vb) (rt (D.int 1)))) (lnil)))) R
  | _ => fail
theorem len_s_law_by : ∀ {ds : List D} {R : D → Prop}, s_law_by ds R → ds.length = 2
  | [], _, h => h.elim
  | [_], _, h => h.elim
  | [_, _], _, _ => rfl
  | _ :: _ :: _ :: _, _, h => h.elim
def s_Fraction_eq : List D → M D
  | [vself, vother] => fun R => (andV (op1 (isiG [(.c 1)]) (rt vother)) (andV (op2 (eqT noE 1) (op1 (fldI 1 0) (rt vself)) (op1 (fldI 1 0) (rt vother))) (op2 (eqT noE 1) (op1 (fldI 1 1) (rt vself)) (op1 (fldI 1 1) (rt vother))))) R
  | _ => fail
def ownE : OwnE := fun c => match c with | 0 => s_Ratio_eq | 1 => s_Fraction_eq | _ => fun _ => fail
def s_law_entry : List D → M D
  | [vpot_here] => fun R => (opN s_law_pick (lcons (rt vpot_here) (lcons (lstM (lcons (tupM (lcons (rt (D.int 0)) (lcons (rt (D.int 1)) (lnil)))) (lcons (tupM (lcons (rt (D.int 0)) (lcons (rt (D.int 1)) (lnil)))) (lcons (tupM (lcons (rt (D.int 1)) (lcons (rt (D.int 1)) (lnil)))) (lcons (tupM (lcons (op1 (negG fun _ => fail) (rt (D.int 1))) (lcons (rt (D.int 1)) (lnil)))) (lcons (tupM (lcons (rt (D.int 2)) (lcons (rt (D.int 1)) (lnil)))) (lcons (tupM (lcons (rt (D.int 3)) (lcons (rt (D.int 1)) (lnil)))) (lcons (tupM (lcons (op1 (negG fun _ => fail) (rt (D.int 4))) (lcons (rt (D.int 1)) (lnil)))) (lcons (tupM (lcons (rt (D.int 1)) (lcons (rt (D.int 2)) (lnil)))) (lcons (tupM (lcons (op1 (negG fun _ => fail) (rt (D.int 5))) (lcons (rt (D.int 3)) (lnil)))) (lnil))))))))))) (lnil)))) R
  | _ => fail
theorem len_s_law_entry : ∀ {ds : List D} {R : D → Prop}, s_law_entry ds R → ds.length = 1
  | [], _, h => h.elim
  | [_], _, _ => rfl
  | _ :: _ :: _, _, h => h.elim
def s_law_standing_k41 : List D → M D
  | [vpot_here, vmany] => fun R => (lcM (walkM range1G (lcons (opN s_law_draw (lcons (rt vpot_here) (lcons (rt vmany) (lnil)))) (lnil))) (fun vplace => opN s_law_entry (lcons (rt vpot_here) (lnil)))) (fun vfound => (op2 (addG never2) (rt vfound) (lstM (lcons (opN s_law_pick (lcons (rt vpot_here) (lcons (lstM (lcons (tupM (lcons (rt (D.int 1)) (lcons (rt (D.int 1)) (lnil)))) (lcons (tupM (lcons (op1 (negG fun _ => fail) (rt (D.int 2))) (lcons (rt (D.int 1)) (lnil)))) (lcons (tupM (lcons (rt (D.int 1)) (lcons (rt (D.int 3)) (lnil)))) (lnil))))) (lnil)))) (lnil)))) R)
  | _ => fail
theorem len_s_law_standing_k41 : ∀ {ds : List D} {R : D → Prop}, s_law_standing_k41 ds R → ds.length = 2
  | [], _, h => h.elim
  | [_], _, h => h.elim
  | [_, _], _, _ => rfl
  | _ :: _ :: _ :: _, _, h => h.elim
def s_told_shape : List D → M D
  | [vshape] => fun R => (opN s_ratios_over (lcons (rt vshape) (lcons (op2 ixG (opN s_trimmed (lcons (rt vshape) (lnil))) (op1 (negG fun _ => fail) (rt (D.int 1)))) (lnil)))) R
  | _ => fail
theorem len_s_told_shape : ∀ {ds : List D} {R : D → Prop}, s_told_shape ds R → ds.length = 1
  | [], _, h => h.elim
  | [_], _, _ => rfl
  | _ :: _ :: _, _, h => h.elim
def s_padded : List D → M D
  | [vpoly, vmany] => fun R => (op2 (addG never2) (rt vpoly) (op2 (mulG never2) (lstM (lcons (rt (D.int 0)) (lnil))) (op2 (subG never2) (op2 (addG never2) (rt vmany) (rt (D.int 1))) (opN lenF (lcons (rt vpoly) (lnil)))))) R
  | _ => fail
theorem len_s_padded : ∀ {ds : List D} {R : D → Prop}, s_padded ds R → ds.length = 2
  | [], _, h => h.elim
  | [_], _, h => h.elim
  | [_, _], _, _ => rfl
  | _ :: _ :: _ :: _, _, h => h.elim
def s_content : List D → M D
  | [vnumbers] => fun R => (rt (D.int 0)) (fun vshared => (itemsM (rt vnumbers)) (fun ds => forC (fun vnumber (vs : D) nx bk => (opN gcdF (lcons (rt vs) (lcons (rt vnumber) (lnil)))) (fun vshared2 => (tst (op2 (eqT noE 1) (rt vshared2) (rt (D.int 1)))) (fun b => ite2 b ((rt (D.int 1)) R) (nx vshared2)))) (fun vs : D => (rt vs) R) ds (vshared : D)))
  | _ => fail
theorem len_s_content : ∀ {ds : List D} {R : D → Prop}, s_content ds R → ds.length = 1
  | [], _, h => h.elim
  | [_], _, _ => rfl
  | _ :: _ :: _, _, h => h.elim
def s_without_content : List D → M D
  | [vnumbers] => fun R => (opN s_content (lcons (rt vnumbers) (lnil))) (fun vshared => (iteM (tst (op2 (gtG) (rt vshared) (rt (D.int 1)))) (lcM (itemsM (rt vnumbers)) (fun vnumber => op2 fdivG (rt vnumber) (rt vshared))) (opN listF (lcons (rt vnumbers) (lnil)))) R)
  | _ => fail
theorem len_s_without_content : ∀ {ds : List D} {R : D → Prop}, s_without_content ds R → ds.length = 1
  | [], _, h => h.elim
  | [_], _, _ => rfl
  | _ :: _ :: _, _, h => h.elim
def s_bare : List D → M D
  | [vnumbers] => fun R => (opN s_without_content (lcons (opN s_trimmed (lcons (rt vnumbers) (lnil))) (lnil))) (fun vpoly => (iteM (andM (truM (rt vpoly)) (tst (op2 (ltG) (op2 ixG (rt vpoly) (op1 (negG fun _ => fail) (rt (D.int 1)))) (rt (D.int 0))))) (opN s_negated (lcons (rt vpoly) (lnil))) (rt vpoly)) R)
  | _ => fail
theorem len_s_bare : ∀ {ds : List D} {R : D → Prop}, s_bare ds R → ds.length = 1
  | [], _, h => h.elim
  | [_], _, _ => rfl
  | _ :: _ :: _, _, h => h.elim
def s_shaped : List D → M D
  | [vnumbers] => fun R => (opN s_padded (lcons (opN s_bare (lcons (rt vnumbers) (lnil))) (lcons (op2 (subG never2) (opN lenF (lcons (rt vnumbers) (lnil))) (rt (D.int 1))) (lnil)))) R
  | _ => fail
theorem len_s_shaped : ∀ {ds : List D} {R : D → Prop}, s_shaped ds R → ds.length = 1
  | [], _, h => h.elim
  | [_], _, _ => rfl
  | _ :: _ :: _, _, h => h.elim
def s_is_form : List D → M D
  | [vvalue] => fun R => (andV (opN s_is_poly (lcons (rt vvalue) (lnil))) (opN anyG (lcons (op2 ixG (opN s_cleared (lcons (rt vvalue) (lnil))) (rt (D.int 0))) (lnil)))) R
  | _ => fail
theorem len_s_is_form : ∀ {ds : List D} {R : D → Prop}, s_is_form ds R → ds.length = 1
  | [], _, h => h.elim
  | [_], _, _ => rfl
  | _ :: _ :: _, _, h => h.elim
def s_shape_of : List D → M D
  | [vform] => fun R => (notM (truM (opN s_is_form (lcons (rt vform) (lnil))))) (fun b => ite2 b (False) ((opN s_shaped (lcons (op2 ixG (opN s_cleared (lcons (rt vform) (lnil))) (rt (D.int 0))) (lnil))) R))
  | _ => fail
theorem len_s_shape_of : ∀ {ds : List D} {R : D → Prop}, s_shape_of ds R → ds.length = 1
  | [], _, h => h.elim
  | [_], _, _ => rfl
  | _ :: _ :: _, _, h => h.elim
def s_are_like : List D → M D
  | [vform, vother] => fun R => (op2 (eqT noE 1) (opN s_shape_of (lcons (rt vform) (lnil))) (opN s_shape_of (lcons (rt vother) (lnil)))) R
  | _ => fail
theorem len_s_are_like : ∀ {ds : List D} {R : D → Prop}, s_are_like ds R → ds.length = 2
  | [], _, h => h.elim
  | [_], _, h => h.elim
  | [_, _], _, _ => rfl
  | _ :: _ :: _ :: _, _, h => h.elim
def s_law_passed : List D → M D
  | [vpot_here, vpair] => fun R => (andV (op2 (eqT noE 1) (op2 ixG (rt vpair) (rt (D.int 1))) (rt (D.int 1))) (op2 (ltG) (opN absF (lcons (op2 ixG (rt vpair) (rt (D.int 0))) (lnil))) (op2 powG (rt (D.int 10)) (rt (D.int 6))))) (fun vis_small => (iteM (andM (truM (rt vis_small)) (tst (op2 (eqT noE 1) (opN s_law_draw (lcons (rt vpot_here) (lcons (rt (D.int 2)) (lnil)))) (rt (D.int 0))))) (op2 ixG (rt vpair) (rt (D.int 0))) (opN (mkM 0 s_Ratio_init []) (lcons (op2 ixG (rt vpair) (rt (D.int 0))) (lcons (op2 ixG (rt vpair) (rt (D.int 1))) (lnil))))) R)
  | _ => fail
theorem len_s_law_passed : ∀ {ds : List D} {R : D → Prop}, s_law_passed ds R → ds.length = 2
  | [], _, h => h.elim
  | [_], _, h => h.elim
  | [_, _], _, _ => rfl
  | _ :: _ :: _ :: _, _, h => h.elim
def s_law_given_form : List D → M D
  | [vpot_here, vform_here] => fun R => (lcM (itemsM (rt vform_here)) (fun ventry_here => opN s_law_passed (lcons (rt vpot_here) (lcons (rt ventry_here) (lnil))))) (fun vfound => (iteM (tst (op2 (eqT noE 1) (opN s_law_draw (lcons (rt vpot_here) (lcons (rt (D.int 3)) (lnil)))) (rt (D.int 0)))) (opN tupleF (lcons (rt vfound) (lnil))) (rt vfound)) R)
  | _ => fail
theorem len_s_law_given_form : ∀ {ds : List D} {R : D → Prop}, s_law_given_form ds R → ds.length = 2
  | [], _, h => h.elim
  | [_], _, h => h.elim
  | [_, _], _, _ => rfl
  | _ :: _ :: _ :: _, _, h => h.elim
def s_law_trim_k41 : List D → M D
  | [vpoly] => fun R => (itemsM (rt vpoly)) (fun vfound => whC (fun vs : List D => andM (tst (op2 (neT noE 1) (rt (D.lst vs)) (lstM (lnil)))) (tst (op2 (eqT noE 1) (op2 ixG (op2 ixG (rt (D.lst vs)) (op1 (negG fun _ => fail) (rt (D.int 1)))) (rt (D.int 0))) (rt (D.int 0))))) (fun (vs : List D) nx bk => popM vs (fun vfound2 => nx vfound2)) (fun vs : List D => (rt (D.lst vs)) R) (vfound : List D))
  | _ => fail
theorem len_s_law_trim_k41 : ∀ {ds : List D} {R : D → Prop}, s_law_trim_k41 ds R → ds.length = 1
  | [], _, h => h.elim
  | [_], _, _ => rfl
  | _ :: _ :: _, _, h => h.elim
def s_law_over : List D → M D
  | [vone, vother] => fun R => (opN s_law_low (lcons (op2 (mulG never2) (op2 ixG (rt vone) (rt (D.int 0))) (op2 ixG (rt vother) (rt (D.int 1)))) (lcons (op2 (mulG never2) (op2 ixG (rt vone) (rt (D.int 1))) (op2 ixG (rt vother) (rt (D.int 0)))) (lnil)))) R
  | _ => fail
theorem len_s_law_over : ∀ {ds : List D} {R : D → Prop}, s_law_over ds R → ds.length = 2
  | [], _, h => h.elim
  | [_], _, h => h.elim
  | [_, _], _, _ => rfl
  | _ :: _ :: _ :: _, _, h => h.elim
def s_law_headed : List D → M D
  | [vform_here] => fun R => (op2 ixG (opN s_law_trim_k41 (lcons (rt vform_here) (lnil))) (op1 (negG fun _ => fail) (rt (D.int 1)))) (fun vlast => (lcM (itemsM (rt vform_here)) (fun ventry_here => opN s_law_over (lcons (rt ventry_here) (lcons (rt vlast) (lnil))))) R)
  | _ => fail
theorem len_s_law_headed : ∀ {ds : List D} {R : D → Prop}, s_law_headed ds R → ds.length = 1
  | [], _, h => h.elim
  | [_], _, _ => rfl
  | _ :: _ :: _, _, h => h.elim
def s_Ratio_top : List D → M D
  | [vself] => fun R => (op1 (fldI 0 0) (rt vself)) R
  | _ => fail
theorem len_s_Ratio_top : ∀ {ds : List D} {R : D → Prop}, s_Ratio_top ds R → ds.length = 1
  | [], _, h => h.elim
  | [_], _, _ => rfl
  | _ :: _ :: _, _, h => h.elim
def s_Ratio_bottom : List D → M D
  | [vself] => fun R => (op1 (fldI 0 1) (rt vself)) R
  | _ => fail
theorem len_s_Ratio_bottom : ∀ {ds : List D} {R : D → Prop}, s_Ratio_bottom ds R → ds.length = 1
  | [], _, h => h.elim
  | [_], _, _ => rfl
  | _ :: _ :: _, _, h => h.elim
def s_law_told : List D → M D
  | [vvalue] => fun R => (orM (notM (truM (op1 (isiG [.list]) (rt vvalue)))) (notM (truM (opN allF (lcons (lcM (itemsM (rt vvalue)) (fun ventry_here => op1 (isiG [(.c 0)]) (rt ventry_here))) (lnil)))))) (fun b => ite2 b ((rt D.non) R) ((lcM (itemsM (rt vvalue)) (fun ventry_here2 => tupM (lcons (op1 (propM 0 s_Ratio_top) (rt ventry_here2)) (lcons (op1 (propM 0 s_Ratio_bottom) (rt ventry_here2)) (lnil))))) R))
  | _ => fail
theorem len_s_law_told : ∀ {ds : List D} {R : D → Prop}, s_law_told ds R → ds.length = 1
  | [], _, h => h.elim
  | [_], _, _ => rfl
  | _ :: _ :: _, _, h => h.elim
def s_Ratio_mul : List D → M D
  | [vself, vother] => fun R => (opN s_pair_of (lcons (rt vother) (lnil))) (unP 2 (l2 (fun vtop vbottom => (opN (mkM 0 s_Ratio_init []) (lcons (op2 (mulG never2) (op1 (fldI 0 0) (rt vself)) (rt vtop)) (lcons (op2 (mulG never2) (op1 (fldI 0 1) (rt vself)) (rt vbottom)) (lnil)))) R)))
  | _ => fail
def s_Ratio_rmul : List D → M D
  | [vself, vother] => fun R => (op2 (mulG never2) (rt vself) (rt vother)) R
  | _ => fail
def own_mult : D → D → M D := ownB 0 s_Ratio_mul s_Ratio_rmul
def s_Ratio_neg : List D → M D
  | [vself] => fun R => (opN (mkM 0 s_Ratio_init []) (lcons (op1 (negG fun _ => fail) (op1 (fldI 0 0) (rt vself))) (lcons (op1 (fldI 0 1) (rt vself)) (lnil)))) R
  | _ => fail
def own_neg : D → M D := ownN 0 s_Ratio_neg
def s_Ratio_add : List D → M D
  | [vself, vother] => fun R => (opN s_pair_of (lcons (rt vother) (lnil))) (unP 2 (l2 (fun vtop vbottom => (opN (mkM 0 s_Ratio_init []) (lcons (op2 (addG never2) (op2 (mulG never2) (op1 (fldI 0 0) (rt vself)) (rt vbottom)) (op2 (mulG never2) (rt vtop) (op1 (fldI 0 1) (rt vself)))) (lcons (op2 (mulG never2) (op1 (fldI 0 1) (rt vself)) (rt vbottom)) (lnil)))) R)))
  | _ => fail
def s_Ratio_radd : List D → M D
  | [vself, vother] => fun R => (op2 (addG never2) (rt vself) (rt vother)) R
  | _ => fail
def own_add : D → D → M D := ownB 0 s_Ratio_add s_Ratio_radd
def s_Ratio_sign : List D → M D
  | [vself] => fun R => (tst (op2 (eqT noE 1) (op1 (fldI 0 0) (rt vself)) (rt (D.int 0)))) (fun b => ite2 b ((rt (D.int 0)) R) ((iteM (tst (op2 (gtG) (op1 (fldI 0 0) (rt vself)) (rt (D.int 0)))) (rt (D.int 1)) (op1 (negG fun _ => fail) (rt (D.int 1)))) R))
  | _ => fail
def s_Ratio_sub : List D → M D
  | [vself, vother] => fun R => (opN s_pair_of (lcons (rt vother) (lnil))) (unP 2 (l2 (fun vtop vbottom => (opN (mkM 0 s_Ratio_init []) (lcons (op2 (subG never2) (op2 (mulG never2) (op1 (fldI 0 0) (rt vself)) (rt vbottom)) (op2 (mulG never2) (rt vtop) (op1 (fldI 0 1) (rt vself)))) (lcons (op2 (mulG never2) (op1 (fldI 0 1) (rt vself)) (rt vbottom)) (lnil)))) R)))
  | _ => fail
def s_Ratio_rsub : List D → M D
  | [vself, vother] => fun R => (op1 (negG fun _ => fail) (op2 (subG never2) (rt vself) (rt vother))) R
  | _ => fail
def own_sub : D → D → M D := ownB 0 s_Ratio_sub s_Ratio_rsub
def s_Ratio_over : List D → M D
  | [vself, vother] => fun R => (opN s_pair_of (lcons (rt vother) (lnil))) (unP 2 (l2 (fun vtop vbottom => (tst (op2 (eqT noE 1) (rt vtop) (rt (D.int 0)))) (fun b => ite2 b (False) ((opN (mkM 0 s_Ratio_init []) (lcons (op2 (mulG never2) (op1 (fldI 0 0) (rt vself)) (rt vbottom)) (lcons (op2 (mulG never2) (op1 (fldI 0 1) (rt vself)) (rt vtop)) (lnil)))) R)))))
  | _ => fail
def s_law_leaves_none : List D → M D
  | [vpoly_here, vother] => fun R => (opN listF (lcons (rt vpoly_here) (lnil))) (fun vrest => (walkM range3G (lcons (op2 (subG own_sub) (opN lenF (lcons (rt vpoly_here) (lnil))) (opN lenF (lcons (rt vother) (lnil)))) (lcons (op1 (negG own_neg) (rt (D.int 1))) (lcons (op1 (negG own_neg) (rt (D.int 1))) (lnil))))) (fun ds => forC (fun vshift (vs : D) nx bk => (methM 0 s_Ratio_over (op2 ixG (rt vs) (op2 (subG own_sub) (op2 (addG own_add) (rt vshift) (opN lenF (lcons (rt vother) (lnil)))) (rt (D.int 1)))) (lcons (op2 ixG (rt vother) (op1 (negG own_neg) (rt (D.int 1)))) (lnil))) (fun vnumber => (lcM (walkM enumG (lcons (rt vs) (lnil))) (un2 (fun vat ventry => iteM (tst (chainM (leG) (ltG) (rt (D.int 0)) (op2 (subG own_sub) (rt vat) (rt vshift)) (opN lenF (lcons (rt vother) (lnil))))) (op2 (subG own_sub) (rt ventry) (op2 (mulG own_mult) (rt vnumber) (op2 ixG (rt vother) (op2 (subG own_sub) (rt vat) (rt vshift))))) (rt ventry)))) (fun vrest2 => nx vrest2))) (fun vs : D => (opN allF (lcons (lcM (itemsM (rt vs)) (fun ventry2 => op2 (eqT noE 1) (op1 (propM 0 s_Ratio_sign) (rt ventry2)) (rt (D.int 0)))) (lnil))) R) ds (vrest : D)))
  | _ => fail
def s_law_is_number : List D → M D
  | [vvalue] => fun R => (orV (op1 (isiG [(.c 0)]) (rt vvalue)) (andV (op1 (isiG [.int]) (rt vvalue)) (blM (notM (truM (op1 (isiG [.bool]) (rt vvalue))))))) R
  | _ => fail
def s_law_looks : List D → M D
  | [vpoly_here, vvalue] => fun R => (orM (notM (truM (op1 (isiG [.list, .tuple]) (rt vvalue)))) (orM (tst (op2 (gtG) (opN lenF (lcons (rt vvalue) (lnil))) (rt (D.int 25)))) (notM (truM (opN allF (lcons (lcM (itemsM (rt vvalue)) (fun vnumber => opN s_law_is_number (lcons (rt vnumber) (lnil)))) (lnil))))))) (fun b => ite2 b ((rt (D.bl false)) R) ((lcW (itemsM (rt vvalue)) (fun vnumber2 => op2 (addG own_add) (opN (mkM 0 s_Ratio_init [D.int 1]) (lcons (rt (D.int 0)) (lnil))) (rt vnumber2))) (fun vtold => whC (fun vs : List D => andM (tst (op2 (neT noE 1) (rt (D.lst vs)) (lstM (lnil)))) (tst (op2 (eqT noE 1) (op1 (propM 0 s_Ratio_sign) (op2 ixG (rt (D.lst vs)) (op1 (negG own_neg) (rt (D.int 1))))) (rt (D.int 0))))) (fun (vs : List D) nx bk => popM vs (fun vtold2 => nx vtold2)) (fun vs : List D => (andV (op2 (neT noE 1) (rt (D.lst vs)) (lstM (lnil))) (opN s_law_leaves_none (lcons (rt vpoly_here) (lcons (rt (D.lst vs)) (lnil))))) R) (vtold : List D))))
  | _ => fail
def s_divided_bare : List D → M D
  | [vpoly, vother] => fun R => (tupM (lcons (rt (D.int 1)) (lcons (lstM (lnil)) (lcons (opN listF (lcons (rt vpoly) (lnil))) (lcons (op2 ixG (rt vother) (op1 (negG fun _ => fail) (rt (D.int 1)))) (lnil)))))) (unP 4 (l4 (fun vpower vquotient vrest vhead => (walkM range3G (lcons (op2 (subG never2) (opN lenF (lcons (rt vpoly) (lnil))) (opN lenF (lcons (rt vother) (lnil)))) (lcons (op1 (negG fun _ => fail) (rt (D.int 1))) (lcons (op1 (negG fun _ => fail) (rt (D.int 1))) (lnil))))) (fun ds => forC (fun vshift (vs : D × D × D) nx bk => (opN gcdF (lcons (rt vhead) (lcons (op2 ixG (rt vs.2.2) (op1 (negG fun _ => fail) (rt (D.int 1)))) (lnil)))) (fun vshared => (tupM (lcons (op2 fdivG (rt vhead) (rt vshared)) (lcons (op2 fdivG (op2 ixG (rt vs.2.2) (op1 (negG fun _ => fail) (rt (D.int 1)))) (rt vshared)) (lnil)))) (unP 2 (l2 (fun vup vdown => (lcM (itemsM (slM (rt vs.2.2) (noPart) (partM (rt vshift)))) (fun vnumber => op2 (mulG never2) (rt vup) (rt vnumber))) (fun vahead => (op2 (addG never2) (rt vahead) (lcM (walkM zipG (lcons (slM (rt vs.2.2) (partM (rt vshift)) (partM (op1 (negG fun _ => fail) (rt (D.int 1))))) (lcons (rt vother) (lnil)))) (un2 (fun vnumber2 vpart => op2 (subG never2) (op2 (mulG never2) (rt vup) (rt vnumber2)) (op2 (mulG never2) (rt vdown) (rt vpart)))))) (fun vrest2 => (op2 (addG never2) (lstM (lcons (rt vdown) (lnil))) (opN s_scaled_by (lcons (rt vs.2.1) (lcons (rt vup) (lnil))))) (fun vquotient2 => (op2 (mulG never2) (rt vs.1) (rt vup)) (fun vpower2 => nx (vpower2, vquotient2, vrest2)))))))))) (fun vs : D × D × D => (tupM (lcons (rt vs.1) (lcons (opN s_trimmed (lcons (rt vs.2.1) (lnil))) (lcons (opN s_trimmed (lcons (rt vs.2.2) (lnil))) (lnil))))) R) ds ((vpower, vquotient, vrest) : D × D × D)))))
  | _ => fail
theorem len_s_divided_bare : ∀ {ds : List D} {R : D → Prop}, s_divided_bare ds R → ds.length = 2
  | [], _, h => h.elim
  | [_], _, h => h.elim
  | [_, _], _, _ => rfl
  | _ :: _ :: _ :: _, _, h => h.elim
end Sl
set_option Elab.async false
set_option linter.all false
set_option maxRecDepth 100000
set_option maxHeartbeats 4000000
/-! exceptions of one own class without own __init__: defs that raise it, try .. except -/
namespace Uv
open PySem L2 Inn PySem.Spec PyProof.Rows
def optX (a : D → Prop) (b : Prop) : Option D → Prop
  | some d => a d
  | none => b
theorem optX_some {a : D → Prop} {b : Prop} {d : D} (h : optX a b (some d)) : a d := h
theorem optX_none {a : D → Prop} {b : Prop} (h : optX a b none) : b := h
/-- what is known of such a class: x by name, at C -/
structure ExcC (K : PySem.W.Frag) (mg : Str → Option Value) (x : Str) (C : Addr) (bmB : List Value) (newId : String) : Prop where
  g : mg x = some (.ref C)
  q : PySem.W.excIn K C bmB newId = true
  kp : PySem.W.keepIn K (.ref C) = true
  sub : PySem.W.subIn K (.ref C) (.type "BaseException") = some true
  ty : PySem.W.typeIn K (.ref C) = some (.type "type")
  self : PySem.W.exmOne K (.ref C) (.ref C) = some true
/-- a def that answers, or raises the class at C -/
def SpDX (T : Ct) (C : Addr) (n : Nat) (s : List D → M (Option D)) : Sp := fun vs H Q E => ∃ (W : Wo) (ds : List D) (R : Option D → Prop), Iss T W H vs ds ∧ ds.length = n ∧ W.I H ∧ s ds R ∧
  (∀ y u H', R (some y) → Up W.toWld H H' → W.I H' → Is T W H' u y → Q u H') ∧ (∀ H', R none → Up W.toWld H H' → W.I H' → E (.ref C) none H')
section
variable {T : Ct} {P : Program} {w : World} {K : PySem.W.Frag} {mg : Str → Option Value} {base : Heap} {x qual : Str} {st : Stmt} {f C : Addr} {fd : FuncData} {N ps : List Str} {k n : Nat} {s : List D → M (Option D)}
theorem fn_DX (F : Fun K x qual st f fd) (S : FnScope N ps (defScope st)) (hn : ps.length = n)
    (body : ∀ (cdv : Value) (A' : Around) (outer : List Env) (s0 : Shared) (H : Hp) (E : XK) (W : Wo) (vs : List V) (ds : List D) (R : Option D → Prop) (Q : VK), Room k (A'.deeper (envOfC qual (defScope st) s0.heap.objs.size f cdv)) → Now T W W H (L2.start N vs) H (startD N ds) → s ds R → ds.length = n →
      (∀ y u H', R (some y) → Up W.toWld H H' → W.I H' → Is T W H' u y → Q u H') → (∀ H', R none → Up W.toWld H H' → W.I H' → E (.ref C) none H') →
      Wss (cxOf (L2.CX P w) P w K mg base N qual (defScope st) f cdv A' outer s0 H E) (defBody st) { nx := fun _ H' => Q .non H', rt := Q } (L2.start N vs) H) :
    FnOk P w K mg base (L2.CX P w) (k + 1) f fd ps (SpDX T C n s) :=
  F.okX S (fun vs H Q E ⟨W, ds, R, h1, h2, _⟩ => by rw [h1.len, h2, hn]) fun cdv A' outer s0 H vs Q E hr ⟨W, ds, R, h1, h2, hI, hm, q, q2⟩ =>
    body cdv A' outer s0 H E W vs ds R Q hr ⟨Up.refl _, fun _ _ m _ => m, hI, sees_start h1⟩ hm h2 q q2
end
/-- X() -/
theorem pmk_own0 {X : Cx} {C : Addr} {bmB : List Value} {B newId initId : String} {x : Str} {p pos : Pos} (F : ExcBaseFacts B newId initId bmB) (ex : ExcC X.K X.mg x C bmB newId) (hg : Gl X x) (hdb : (x == ("__debug__" : Str)) = false := by decide) :
    PMk X (.Call (.Name x p) [] [] pos) (fun _ H Q => Q (.ref C) none H) := by
  intro pins s σ H Q I h
  refine wpAny_Call_Name_kw (ld_glob I hg ex.g ?_ hdb)
  refine PySem.W.callWith_K0 I.kIn ex.kp ?_
  show wpAny _ _ (call (.ref C) []) _ _ _
  obtain ⟨bm, N, nm, qn, bs, hdct, sn, sub, ab, col, dd, k0, k1, k2, k3, k5, mN, hC, hN, hni, T⟩ := exc_obj I.kIn ex.q
  refine wpAny_call_exc_subT F T hC hN hni (fun h' e hm => ?_) (Nat.zero_le _)
  exact mk_of I hm (raises_own ex.sub ex.ty) h (I.hok.gone hm.new)
section
variable {T : Ct} {X : Cx} {W W0 : Wo} {σ : L2.St} {H H0 : Hp} {pos p p1 pos' np apos : Pos} {e o : Expr} {es : List Expr} {sts : List Stmt} {D' : Ends} {m : M (Option D)} {mo : M D} {ml : M (List D)} {ρ : List (Option D)} {nm x : Str} {C : Addr} {bmB : List Value} {B newId initId : String} {k n c : Nat} {s : List D → M (Option D)} {Wx : WX}
theorem w_raise0 (F : ExcBaseFacts B newId initId bmB) (ex : ExcC X.K X.mg x C bmB newId) (tk : Takes X Wx) (kx : Wx (.ref C) none σ H) (hc : X.calm = true := by rfl) (hg : Gl X x := by rfl) (hdb : (x == ("__debug__" : Str)) = false := by decide) :
    Wss X (.Raise (some (.Call (.Name x p) [] [] pos)) none pos' :: sts) D' σ H := ⟨_, pss_cons (ps_raise hc tk (pmk_own0 F ex hg hdb)) wss_all, kx⟩
/-- try: body, except x: suite; N: what is known where it was raised -/
theorem w_try {body suite : List Stmt} {b₀ : Stmt} {Nn : Prop} (n : Now T W0 W H0 σ H ρ) (ex : ExcC X.K X.mg x C bmB newId) (hs : X.stack = X.env :: X.outer) (hf : X.env.frame = some X.env.locals) (tk : Takes X (fun _ _ _ _ => False))
    (hb : ∀ (Wx : WX) (pn : List (Addr × Obj)) (xe : Value → Shared → Prop), Takes (X.tr pn xe) Wx → (∀ H1, Now T W0 W H0 σ H1 ρ → Nn → Wx (.ref C) none σ H1) →
      Wss (X.tr pn xe) body { D' with nx := fun σ' H' => Wss X sts D' σ' H' } σ H)
    (hsu : ∀ (a : Addr) (pn : List (Addr × Obj)) (H1 : Hp), Now T W0 W H0 σ H1 ρ → Nn → Wss (X.suite a pn) (b₀ :: suite) { D' with nx := fun σ' H' => Wss X sts D' σ' H' } σ H1) (hg : Gl X x := by rfl) (hdb : (x == ("__debug__" : Str)) = false := by decide) :
    Wss X (.Try body [.ExceptHandler (some (.Name x np)) none (b₀ :: suite) pos'] [] [] pos :: sts) D' σ H := by
  refine ⟨_, pss_cons (ps_try_only (tb := fun W D σ H => ∀ pn xe, Takes (X.tr pn xe) W → PassesOwn (model X.prog X.w) X.A X.env xe → Wss (X.tr pn xe) body D σ H) (ts := fun a _ _ D σ H => ∀ pn, Wss (X.suite a pn) (b₀ :: suite) D σ H)
    hs hf ⟨hg, hdb, .inl ex.g⟩ tk (fun W pn xe tk' po => ⟨fun pins s σ H D I h => ?_⟩) (fun a oe cls d pn _ _ => ⟨fun pins s σ H D I h => ?_⟩)) wss_all, ?_⟩
  · obtain ⟨t, p, z⟩ := h pn xe tk' po
    exact p.run pins s σ H D I z
  · obtain ⟨t, p, z⟩ := h ((a, oe) :: pn)
    exact p.run pins s σ H D I z
  · intro pn xe tk' po
    refine hb _ pn xe tk' fun H1 n1 hN => ⟨true, ex.self, fun _ a ha pn => hsu a pn H1 n1 hN, fun q => nomatch q⟩
/-- an expression that answers, or raises -/
def DwX (T : Ct) (X : Cx) (W : Wo) (C : Addr) (e : Expr) (σ : L2.St) (H : Hp) (m : M (Option D)) : Prop := ∀ (R : Option D → Prop) (Wx : WX), Takes X Wx → m R → ∃ te, PE X e te ∧ ∀ H1, Up W.toWld H H1 → W.I H1 → ∀ Q : VK,
  (∀ v H2 d, Up W.toWld H1 H2 → W.I H2 → Is T W H2 v d → R (some d) → Q v H2) → (R none → ∀ H2, Up W.toWld H1 H2 → W.I H2 → Wx (.ref C) none σ H2) → te σ H1 Q
theorem w_setX {P : Option D → Prop} (i : Nat) (n : Now T W0 W H0 σ H ρ) (tk : Takes X Wx) (he : DwX T X W C e σ H m) (hm : m P) (nd : X.N.Nodup) (k : ∀ d σ1 H1, Now T W0 W H0 σ1 H1 (ρ.set i (some d)) → P (some d) → Wss X sts D' σ1 H1) (kx : P none → ∀ H1, Now T W0 W H0 σ H1 ρ → Wx (.ref C) none σ H1)
    (hi : X.N[i]? = some nm := by rfl) (hx : Loc X.env.scope nm := by first | exact Or.inl rfl | exact Or.inr rfl) (hs : swapsWith e (some (.Name nm pos')) pos.line X.env = pure false := by rfl) (hf : X.fn nm = true ∨ X.env.scope.names.lookup nm = some .local := by first | exact .inl rfl | exact .inr rfl) :
    Wss X (.Assign [.Name nm pos'] e pos :: sts) D' σ H := by
  obtain ⟨te, pe, ev⟩ := he P Wx tk hm
  exact ⟨_, pss_cons (ps_set nd hi hx pe hs hf) wss_all, ev H (Up.refl _) n.inv _ (fun v H1 d u i1 hd pd => k d _ H1 ((n.go u i1).set i hd) pd) fun hN H2 u i2 => kx hN H2 (n.go u i2)⟩
structure DefDX (T : Ct) (P : Program) (w : World) (K : PySem.W.Frag) (mg : Str → Option Value) (base : Heap) (k : Nat) (nm : Str) (C : Addr) (n : Nat) (s : List D → M (Option D)) : Prop where
  ex : ∃ f fd ps, FnOk P w K mg base (L2.CX P w) k f fd ps (SpDX T C n s) ∧ mg nm = some (.ref f) ∧ PySem.W.keepIn K (.ref f) = true ∧ Binds K fd ps []
  len : ∀ ds R, s ds R → ds.length = n
structure MethDX (T : Ct) (P : Program) (w : World) (K : PySem.W.Frag) (mg : Str → Option Value) (base : Heap) (k c : Nat) (nm : Str) (C : Addr) (n : Nat) (s : List D → M (Option D)) : Prop where
  ex : ∃ f fd ps, FnOk P w K mg base (L2.CX P w) k f fd ps (SpDX T C n s) ∧ Meth K (T.at_ c) nm f ∧ Binds K fd ps []
  len : ∀ ds R, s ds R → ds.length = n
def opNX (s : List D → M (Option D)) (ml : M (List D)) : M (Option D) := fun R => ml fun ds => s ds R
theorem dwx_call (B : DefDX T X.prog X.w X.K X.mg X.base k nm C n s) (hr : Room k X.A) (ha : Lw T X W (e :: es) σ H ml) (hg : Gl X nm := by rfl) (hdb : (nm == ("__debug__" : Str)) = false := by decide)
    (he : starEach (e :: es) X.env = (false, eval e X.env) :: starEach es X.env := by rfl) (hpl : (backTo pos (starEach es X.env)).any (·.1) = false := by rfl) : DwX T X W C (.Call (.Name nm p) (e :: es) [] pos) σ H (opNX s ml) := by
  obtain ⟨f, fd, ps, F, hm, hk, hb⟩ := B.ex
  intro R Wx tk hR
  refine ⟨_, pe_callS (E := WE Wx) F hr hg hm hk hb (fun σ => passAt tk σ) pa_any hdb he hpl, fun H1 u hI Q q qn => ?_⟩
  exact ha.go hR u hI fun vs H2 ds u2 i2 hx px => ⟨W, ds, R, hx, B.len ds R px, i2, px, fun y w H3 hy u3 i3 h3 => q w H3 y (u2.trans u3) i3 h3 hy, fun H3 hN u3 i3 => qn hN H3 (u2.trans u3) i3⟩
theorem takesD {E : XK} {E₁ : Value → Shared → Prop} (hs : X.stack = X.env :: X.outer) (hf : X.env.frame = some X.env.locals) (hex : X.ex = [])
    (hx : X.xe = fun e s' => wpAny (model X.prog X.w) X.A (leaving X.env e) (fun _ s'' => L2.CX X.prog X.w X.outer X.H_0 X.s_0 E e s'') E₁ s') : Takes X (fun cls d _ H => E cls d H) := takes_of hs hf hex hx
end
end Uv
set_option Elab.async false
set_option linter.all false
set_option maxRecDepth 100000
set_option maxHeartbeats 4000000
set_option exponentiation.threshold 20000
namespace Sl
open PySem L2 Inn Uv
def s_law_plain : List D → M D
  | [vform_here] => fun R => (opN s_law_trim_k41 (lcons (rt vform_here) (lnil))) (fun vpoly => (tupM (lcons (rt vpoly) (lcons (op2 (subG never2) (opN lenF (lcons (rt vform_here) (lnil))) (opN lenF (lcons (rt vpoly) (lnil)))) (lnil)))) R)
  | _ => fail
theorem len_s_law_plain : ∀ {ds : List D} {R : D → Prop}, s_law_plain ds R → ds.length = 1
  | [], _, h => h.elim
  | [_], _, _ => rfl
  | _ :: _ :: _, _, h => h.elim
def s_law_filled : List D → M D
  | [vpoly, vdegree] => fun R => (op2 (addG never2) (rt vpoly) (op2 (mulG never2) (lstM (lcons (tupM (lcons (rt (D.int 0)) (lcons (rt (D.int 1)) (lnil)))) (lnil))) (op2 (subG never2) (op2 (addG never2) (rt vdegree) (rt (D.int 1))) (opN lenF (lcons (rt vpoly) (lnil)))))) R
  | _ => fail
theorem len_s_law_filled : ∀ {ds : List D} {R : D → Prop}, s_law_filled ds R → ds.length = 2
  | [], _, h => h.elim
  | [_], _, h => h.elim
  | [_, _], _, _ => rfl
  | _ :: _ :: _ :: _, _, h => h.elim
def s_law_times_k42 : List D → M D
  | [vone, vother] => fun R => (repM (lcons (tupM (lcons (rt (D.int 0)) (lcons (rt (D.int 1)) (lnil)))) (lnil)) (opN maxF (lcons (rt (D.int 0)) (lcons (op2 (subG never2) (op2 (addG never2) (opN lenF (lcons (rt vone) (lnil))) (opN lenF (lcons (rt vother) (lnil)))) (rt (D.int 1))) (lnil))))) (fun vfound => (walkM enumG (lcons (rt vone) (lnil))) (fun ds => forC (un2F (fun vat vleft (vs : List D) nx bk => (walkM enumG (lcons (rt vother) (lnil))) (fun ds => forC (un2F (fun vto vright_here (vs2 : List D) nx bk => storeM vs2 (opN s_law_plus (lcons (op2 ixG (rt (D.lst vs2)) (op2 (addG never2) (rt vat) (rt vto))) (lcons (opN s_law_by (lcons (rt vleft) (lcons (rt vright_here) (lnil)))) (lnil)))) (op2 (addG never2) (rt vat) (rt vto)) (fun vfound2 => nx vfound2))) (fun vs2 : List D => nx vs2) ds (vs : List D)))) (fun vs : List D => (opN s_law_trim_k41 (lcons (rt (D.lst vs)) (lnil))) R) ds (vfound : List D)))
  | _ => fail
theorem len_s_law_times_k42 : ∀ {ds : List D} {R : D → Prop}, s_law_times_k42 ds R → ds.length = 2
  | [], _, h => h.elim
  | [_], _, h => h.elim
  | [_, _], _, _ => rfl
  | _ :: _ :: _ :: _, _, h => h.elim
def s_law_formed : List D → M D
  | [vone, vother] => fun R => (lcons (opN s_law_plain (lcons (rt vone) (lnil))) (lcons (opN s_law_plain (lcons (rt vother) (lnil))) (lnil))) (l2 (fun vnear vfar => (opN s_law_headed (lcons (opN s_law_filled (lcons (opN s_law_times_k42 (lcons (op2 ixG (rt vnear) (rt (D.int 0))) (lcons (op2 ixG (rt vfar) (rt (D.int 0))) (lnil)))) (lcons (op2 (subG never2) (op2 (addG never2) (opN lenF (lcons (rt vone) (lnil))) (opN lenF (lcons (rt vother) (lnil)))) (rt (D.int 2))) (lnil)))) (lnil))) R))
  | _ => fail
theorem len_s_law_formed : ∀ {ds : List D} {R : D → Prop}, s_law_formed ds R → ds.length = 2
  | [], _, h => h.elim
  | [_], _, h => h.elim
  | [_, _], _, _ => rfl
  | _ :: _ :: _ :: _, _, h => h.elim
def s_law_form_k42 : List D → M D
  | [vpot_here, vmany] => fun R => (op2 (addG never2) (opN s_law_standing_k41 (lcons (rt vpot_here) (lcons (rt vmany) (lnil)))) (op2 (mulG never2) (lstM (lcons (tupM (lcons (rt (D.int 0)) (lcons (rt (D.int 1)) (lnil)))) (lnil))) (opN s_law_draw (lcons (rt vpot_here) (lcons (rt (D.int 3)) (lnil)))))) R
  | _ => fail
theorem len_s_law_form_k42 : ∀ {ds : List D} {R : D → Prop}, s_law_form_k42 ds R → ds.length = 2
  | [], _, h => h.elim
  | [_], _, h => h.elim
  | [_, _], _, _ => rfl
  | _ :: _ :: _ :: _, _, h => h.elim
def s_noughts_behind : List D → M D
  | [vshape] => fun R => (op2 (subG never2) (opN lenF (lcons (rt vshape) (lnil))) (opN lenF (lcons (opN s_trimmed (lcons (rt vshape) (lnil))) (lnil)))) R
  | _ => fail
theorem len_s_noughts_behind : ∀ {ds : List D} {R : D → Prop}, s_noughts_behind ds R → ds.length = 1
  | [], _, h => h.elim
  | [_], _, _ => rfl
  | _ :: _ :: _, _, h => h.elim
def s_product : List D → M D
  | [vform, vother] => fun R => (lcons (opN s_shape_of (lcons (rt vform) (lnil))) (lcons (opN s_shape_of (lcons (rt vother) (lnil))) (lnil))) (l2 (fun vfirst vsecond => (tst (op2 (gtG) (op2 (subG never2) (op2 (addG never2) (opN lenF (lcons (rt vfirst) (lnil))) (opN lenF (lcons (rt vsecond) (lnil)))) (rt (D.int 2))) (rt (D.int 24)))) (fun b => ite2 b (False) ((op2 (addG never2) (opN s_noughts_behind (lcons (rt vfirst) (lnil))) (opN s_noughts_behind (lcons (rt vsecond) (lnil)))) (fun vnoughts => (opN s_told_shape (lcons (op2 (addG never2) (opN s_multiplied (lcons (opN s_trimmed (lcons (rt vfirst) (lnil))) (lcons (opN s_trimmed (lcons (rt vsecond) (lnil))) (lnil)))) (op2 (mulG never2) (lstM (lcons (rt (D.int 0)) (lnil))) (rt vnoughts))) (lnil))) R)))))
  | _ => fail
theorem len_s_product : ∀ {ds : List D} {R : D → Prop}, s_product ds R → ds.length = 2
  | [], _, h => h.elim
  | [_], _, h => h.elim
  | [_, _], _, _ => rfl
  | _ :: _ :: _ :: _, _, h => h.elim
def s_rest_shape : List D → M D
  | [vshape, vother] => fun R => (op2 (subG never2) (opN s_noughts_behind (lcons (rt vother) (lnil))) (opN s_noughts_behind (lcons (rt vshape) (lnil)))) (fun vnoughts => (opN s_divided_bare (lcons (opN s_trimmed (lcons (rt vother) (lnil))) (lcons (opN s_trimmed (lcons (rt vshape) (lnil))) (lnil)))) (unP 3 (l3 (fun v_ vquotient vrest => (orM (tst (op2 (ltG) (rt vnoughts) (rt (D.int 0)))) (truM (rt vrest))) (fun b => ite2 b ((rt D.non) R) ((op2 (addG never2) (opN s_bare (lcons (rt vquotient) (lnil))) (op2 (mulG never2) (lstM (lcons (rt (D.int 0)) (lnil))) (rt vnoughts))) R))))))
  | _ => fail
theorem len_s_rest_shape : ∀ {ds : List D} {R : D → Prop}, s_rest_shape ds R → ds.length = 2
  | [], _, h => h.elim
  | [_], _, h => h.elim
  | [_, _], _, _ => rfl
  | _ :: _ :: _ :: _, _, h => h.elim
def s_is_shape_divider : List D → M D
  | [vshape, vother] => fun R => (op2 (fun x y => asks (∀ v, x ≠ D.cls v) (notNoneG x y)) (opN s_rest_shape (lcons (rt vshape) (lcons (rt vother) (lnil)))) (rt D.non)) R
  | _ => fail
theorem len_s_is_shape_divider : ∀ {ds : List D} {R : D → Prop}, s_is_shape_divider ds R → ds.length = 2
  | [], _, h => h.elim
  | [_], _, h => h.elim
  | [_, _], _, _ => rfl
  | _ :: _ :: _ :: _, _, h => h.elim
def s_divides : List D → M D
  | [vform, vother] => fun R => (lcons (opN s_shape_of (lcons (rt vform) (lnil))) (lcons (opN s_shape_of (lcons (rt vother) (lnil))) (lnil))) (l2 (fun vfirst vsecond => (opN s_is_shape_divider (lcons (rt vfirst) (lcons (rt vsecond) (lnil)))) R))
  | _ => fail
theorem len_s_divides : ∀ {ds : List D} {R : D → Prop}, s_divides ds R → ds.length = 2
  | [], _, h => h.elim
  | [_], _, h => h.elim
  | [_, _], _, _ => rfl
  | _ :: _ :: _ :: _, _, h => h.elim
def s_rest_form : List D → M D
  | [vform, vother] => fun R => (lcons (opN s_shape_of (lcons (rt vform) (lnil))) (lcons (opN s_shape_of (lcons (rt vother) (lnil))) (lnil))) (l2 (fun vfirst vsecond => (opN s_rest_shape (lcons (rt vfirst) (lcons (rt vsecond) (lnil)))) (fun vrest => (tst (op2 (fun x y => asks (∀ v, x ≠ D.cls v) (isNoneG x y)) (rt vrest) (rt D.non))) (fun b => ite2 b (False) ((opN s_told_shape (lcons (rt vrest) (lnil))) R)))))
  | _ => fail
theorem len_s_rest_form : ∀ {ds : List D} {R : D → Prop}, s_rest_form ds R → ds.length = 2
  | [], _, h => h.elim
  | [_], _, h => h.elim
  | [_, _], _, _ => rfl
  | _ :: _ :: _ :: _, _, h => h.elim
def s_law_two_right_k42 : List D → M D
  | [vpot_here, vone, vother] => fun R => (lcons (opN s_law_given_form (lcons (rt vpot_here) (lcons (rt vone) (lnil)))) (lcons (opN s_law_given_form (lcons (rt vpot_here) (lcons (rt vother) (lnil)))) (lcons (opN s_law_formed (lcons (rt vone) (lcons (rt vother) (lnil)))) (lnil)))) (l3 (fun vnear vfar vdue => parRM (opN (reprF ownT 2) (lcons (lstM (lcons (rt vnear) (lcons (rt vfar) (lnil)))) (lnil))) (opN s_product (lcons (rt vnear) (lcons (rt vfar) (lnil)))) (fun vstay vtold_here => (orM (tst (op2 (neT ownE 3) (opN s_law_told (lcons (rt vtold_here) (lnil))) (rt vdue))) (orM (tst (op2 (neT ownE 3) (opN (fun ds => s_product (arr [1, 0] ds)) (lcons (rt vnear) (lcons (rt vfar) (lnil)))) (rt vtold_here))) (tst (op2 (neT ownE 3) (opN (reprF ownT 2) (lcons (lstM (lcons (rt vnear) (lcons (rt vfar) (lnil)))) (lnil))) (rt vstay))))) (fun b => ite2 b ((rt (D.bl false)) R) ((orM (tst (op2 (notBG) (opN s_divides (lcons (rt vnear) (lcons (rt vtold_here) (lnil)))) (rt (D.bl true)))) (tst (op2 (notBG) (opN (fun ds => s_divides (arr [0, 1] ds)) (lcons (rt vfar) (lcons (rt vtold_here) (lnil)))) (rt (D.bl true))))) (fun b => ite2 b ((rt (D.bl false)) R) ((orM (tst (op2 (neT ownE 3) (opN s_law_told (lcons (opN s_rest_form (lcons (rt vnear) (lcons (rt vtold_here) (lnil)))) (lnil))) (opN s_law_headed (lcons (rt vother) (lnil))))) (tst (op2 (neT ownE 3) (opN s_law_told (lcons (opN (fun ds => s_rest_form (arr [1, 0] ds)) (lcons (rt vtold_here) (lcons (rt vfar) (lnil)))) (lnil))) (opN s_law_headed (lcons (rt vone) (lnil)))))) (fun b => ite2 b ((rt (D.bl false)) R) (spoilM vtold_here (rt D.non) ((op2 (eqT ownE 3) (opN s_law_told (lcons (opN s_product (lcons (rt vnear) (lcons (rt vfar) (lnil)))) (lnil))) (rt vdue)) R))))))))))
  | _ => fail
theorem len_s_law_two_right_k42 : ∀ {ds : List D} {R : D → Prop}, s_law_two_right_k42 ds R → ds.length = 3
  | [], _, h => h.elim
  | [_], _, h => h.elim
  | [_, _], _, h => h.elim
  | [_, _, _], _, _ => rfl
  | _ :: _ :: _ :: _ :: _, _, h => h.elim
def sx_rest_form : List D → M (Option D)
  | [vform, vother] => fun R => (lcons (opN s_shape_of (lcons (rt vform) (lnil))) (lcons (opN s_shape_of (lcons (rt vother) (lnil))) (lnil))) (l2 (fun vfirst vsecond => (opN s_rest_shape (lcons (rt vfirst) (lcons (rt vsecond) (lnil)))) (fun vrest => (tst (op2 (fun x y => asks (∀ v, x ≠ D.cls v) (isNoneG x y)) (rt vrest) (rt D.non))) (fun b => ite2 b (R none) ((opN s_told_shape (lcons (rt vrest) (lnil))) (fun d => R (some d)))))))
  | _ => fail
theorem len_sx_rest_form : ∀ {ds : List D} {R : Option D → Prop}, sx_rest_form ds R → ds.length = 2
  | [], _, h => h.elim
  | [_], _, h => h.elim
  | [_, _], _, _ => rfl
  | _ :: _ :: _ :: _, _, h => h.elim
def s_law_rest : List D → M D
  | [vform_here, vother] => fun R => (rt D.non) (fun vtold_here => (opNX sx_rest_form (lcons (rt vform_here) (lcons (rt vother) (lnil)))) (optX (fun vtold_here2 => (rt vtold_here2) R) ((rt D.non) (fun vtold_here3 => (rt vtold_here3) R))))
  | _ => fail
theorem len_s_law_rest : ∀ {ds : List D} {R : D → Prop}, s_law_rest ds R → ds.length = 2
  | [], _, h => h.elim
  | [_], _, h => h.elim
  | [_, _], _, _ => rfl
  | _ :: _ :: _ :: _, _, h => h.elim
def s_law_plus_k42 : List D → M D
  | [vone, vother] => fun R => (opN maxF (lcons (opN lenF (lcons (rt vone) (lnil))) (lcons (opN lenF (lcons (rt vother) (lnil))) (lnil)))) (fun vmany => (lcons (op2 (addG never2) (rt vone) (op2 (mulG never2) (lstM (lcons (tupM (lcons (rt (D.int 0)) (lcons (rt (D.int 1)) (lnil)))) (lnil))) (op2 (subG never2) (rt vmany) (opN lenF (lcons (rt vone) (lnil)))))) (lcons (op2 (addG never2) (rt vother) (op2 (mulG never2) (lstM (lcons (tupM (lcons (rt (D.int 0)) (lcons (rt (D.int 1)) (lnil)))) (lnil))) (op2 (subG never2) (rt vmany) (opN lenF (lcons (rt vother) (lnil)))))) (lnil))) (l2 (fun vnear vfar => (opN s_law_trim_k41 (lcons (lcM (walkM zipG (lcons (rt vnear) (lcons (rt vfar) (lnil)))) (un2 (fun vleft vright_here => opN s_law_plus (lcons (rt vleft) (lcons (rt vright_here) (lnil)))))) (lnil))) R)))
  | _ => fail
theorem len_s_law_plus_k42 : ∀ {ds : List D} {R : D → Prop}, s_law_plus_k42 ds R → ds.length = 2
  | [], _, h => h.elim
  | [_], _, h => h.elim
  | [_, _], _, _ => rfl
  | _ :: _ :: _ :: _, _, h => h.elim
def s_law_scaled_k42 : List D → M D
  | [vpoly, vnumber] => fun R => (opN s_law_trim_k41 (lcons (lcM (itemsM (rt vpoly)) (fun ventry_here => opN s_law_by (lcons (rt ventry_here) (lcons (rt vnumber) (lnil))))) (lnil))) R
  | _ => fail
theorem len_s_law_scaled_k42 : ∀ {ds : List D} {R : D → Prop}, s_law_scaled_k42 ds R → ds.length = 2
  | [], _, h => h.elim
  | [_], _, h => h.elim
  | [_, _], _, _ => rfl
  | _ :: _ :: _ :: _, _, h => h.elim
def s_law_divided : List D → M D
  | [vone, vother] => fun R => parO2M (opN listF (lcons (rt vone) (lnil))) (repM (lcons (tupM (lcons (rt (D.int 0)) (lcons (rt (D.int 1)) (lnil)))) (lnil)) (opN maxF (lcons (rt (D.int 0)) (lcons (op2 (addG never2) (op2 (subG never2) (opN lenF (lcons (rt vone) (lnil))) (opN lenF (lcons (rt vother) (lnil)))) (rt (D.int 1))) (lnil))))) (fun vrest_here vquotient => whC (fun vs : List D × D => tst (op2 (geG) (opN lenF (lcons (rt vs.2) (lnil))) (opN lenF (lcons (rt vother) (lnil))))) (fun (vs : List D × D) nx bk => (lcons (op2 (subG never2) (opN lenF (lcons (rt vs.2) (lnil))) (opN lenF (lcons (rt vother) (lnil)))) (lcons (opN s_law_over (lcons (op2 ixG (rt vs.2) (op1 (negG fun _ => fail) (rt (D.int 1)))) (lcons (op2 ixG (rt vother) (op1 (negG fun _ => fail) (rt (D.int 1)))) (lnil)))) (lnil))) (l2 (fun vplace vfactor => storeM vs.1 (rt vfactor) (rt vplace) (fun vquotient2 => (opN s_law_plus_k42 (lcons (rt vs.2) (lcons (op2 (addG never2) (op2 (mulG never2) (lstM (lcons (tupM (lcons (rt (D.int 0)) (lcons (rt (D.int 1)) (lnil)))) (lnil))) (rt vplace)) (opN s_law_scaled_k42 (lcons (rt vother) (lcons (tupM (lcons (op2 (subG never2) (rt (D.int 0)) (op2 ixG (rt vfactor) (rt (D.int 0)))) (lcons (op2 ixG (rt vfactor) (rt (D.int 1))) (lnil)))) (lnil))))) (lnil)))) (fun vrest_here2 => nx (vquotient2, vrest_here2)))))) (fun vs : List D × D => (tupM (lcons (opN s_law_trim_k41 (lcons (rt (D.lst vs.1)) (lnil))) (lcons (rt vs.2) (lnil)))) R) ((vquotient, vrest_here) : List D × D))
  | _ => fail
theorem len_s_law_divided : ∀ {ds : List D} {R : D → Prop}, s_law_divided ds R → ds.length = 2
  | [], _, h => h.elim
  | [_], _, h => h.elim
  | [_, _], _, _ => rfl
  | _ :: _ :: _ :: _, _, h => h.elim
def s_law_goes_in : List D → M D
  | [vone, vother] => fun R => (lcons (opN s_law_plain (lcons (rt vone) (lnil))) (lcons (opN s_law_plain (lcons (rt vother) (lnil))) (lnil))) (l2 (fun vnear vfar => (andV (op2 (leG) (op2 ixG (rt vnear) (rt (D.int 1))) (op2 ixG (rt vfar) (rt (D.int 1)))) (op2 (eqT noE 1) (op2 ixG (opN s_law_divided (lcons (op2 ixG (rt vfar) (rt (D.int 0))) (lcons (op2 ixG (rt vnear) (rt (D.int 0))) (lnil)))) (rt (D.int 1))) (lstM (lnil)))) R))
  | _ => fail
theorem len_s_law_goes_in : ∀ {ds : List D} {R : D → Prop}, s_law_goes_in ds R → ds.length = 2
  | [], _, h => h.elim
  | [_], _, h => h.elim
  | [_, _], _, _ => rfl
  | _ :: _ :: _ :: _, _, h => h.elim
def s_law_any_right : List D → M D
  | [vpot_here, vone, vother] => fun R => (lcons (opN s_law_given_form (lcons (rt vpot_here) (lcons (rt vone) (lnil)))) (lcons (opN s_law_given_form (lcons (rt vpot_here) (lcons (rt vother) (lnil)))) (lcons (opN s_law_goes_in (lcons (rt vone) (lcons (rt vother) (lnil)))) (lnil)))) (l3 (fun vnear vfar vdue => (tst (op2 (neT ownE 3) (opN (reprF ownT 2) (lcons (lstM (lcons (opN s_divides (lcons (rt vnear) (lcons (rt vfar) (lnil)))) (lcons (opN (fun ds => s_divides (arr [1, 0] ds)) (lcons (rt vfar) (lcons (rt vnear) (lnil)))) (lnil)))) (lnil))) (opN (reprF ownT 2) (lcons (lstM (lcons (rt vdue) (lcons (rt vdue) (lnil)))) (lnil))))) (fun b => ite2 b ((rt (D.bl false)) R) ((opN s_law_rest (lcons (rt vnear) (lcons (rt vfar) (lnil)))) (fun vtold_here => (tst (op2 (neT ownE 3) (op2 (fun x y => asks (∀ v, x ≠ D.cls v) (notNoneG x y)) (rt vtold_here) (rt D.non)) (rt vdue))) (fun b => ite2 b ((rt (D.bl false)) R) ((orV (op2 (fun x y => asks (∀ v, x ≠ D.cls v) (isNoneG x y)) (rt vtold_here) (rt D.non)) (op2 (isBG) (opN s_are_like (lcons (opN s_product (lcons (rt vnear) (lcons (rt vtold_here) (lnil)))) (lcons (rt vfar) (lnil)))) (rt (D.bl true)))) R)))))))
  | _ => fail
theorem len_s_law_any_right : ∀ {ds : List D} {R : D → Prop}, s_law_any_right ds R → ds.length = 3
  | [], _, h => h.elim
  | [_], _, h => h.elim
  | [_, _], _, h => h.elim
  | [_, _, _], _, _ => rfl
  | _ :: _ :: _ :: _ :: _, _, h => h.elim
def s_law_right_k42 : List D → M D
  | [vpot_here] => fun R => (lcons (opN s_law_form_k42 (lcons (rt vpot_here) (lcons (rt (D.int 5)) (lnil)))) (lcons (opN s_law_form_k42 (lcons (rt vpot_here) (lcons (rt (D.int 5)) (lnil)))) (lcons (opN s_law_form_k42 (lcons (rt vpot_here) (lcons (rt (D.int 3)) (lnil)))) (lnil)))) (l3 (fun vone vother vthird => (orM (notM (truM (opN s_law_two_right_k42 (lcons (rt vpot_here) (lcons (rt vone) (lcons (rt vother) (lnil))))))) (notM (truM (opN s_law_two_right_k42 (lcons (rt vpot_here) (lcons (rt vother) (lcons (rt vthird) (lnil)))))))) (fun b => ite2 b ((rt (D.bl false)) R) ((opN s_law_formed (lcons (rt vone) (lcons (rt vthird) (lnil)))) (fun vboth => (itemsM (lstM (lcons (tupM (lcons (rt vone) (lcons (rt vother) (lnil)))) (lcons (tupM (lcons (rt vthird) (lcons (rt vboth) (lnil)))) (lcons (tupM (lcons (rt vone) (lcons (opN s_law_formed (lcons (rt vboth) (lcons (rt vother) (lnil)))) (lnil)))) (lcons (tupM (lcons (rt vboth) (lcons (rt vone) (lnil)))) (lcons (tupM (lcons (op2 (addG never2) (rt vone) (lstM (lcons (tupM (lcons (rt (D.int 0)) (lcons (rt (D.int 1)) (lnil)))) (lnil)))) (lcons (rt vone) (lnil)))) (lcons (tupM (lcons (rt vother) (lcons (rt vboth) (lnil)))) (lnil))))))))) (fun ds => forC (un2F (fun vnear vfar (vs : Unit) nx bk => (notM (truM (opN s_law_any_right (lcons (rt vpot_here) (lcons (rt vnear) (lcons (rt vfar) (lnil))))))) (fun b => ite2 b ((rt (D.bl false)) R) (nx ())))) (fun vs : Unit => (opN s_law_given_form (lcons (rt vpot_here) (lcons (rt vone) (lnil)))) (fun vgiven => (orM (tst (op2 (notBG) (opN s_divides (lcons (lstM (lcons (rt (D.int 3)) (lnil))) (lcons (rt vgiven) (lnil)))) (rt (D.bl true)))) (tst (op2 (neT ownE 3) (opN s_law_told (lcons (opN s_rest_form (lcons (lstM (lcons (rt (D.int 3)) (lnil))) (lcons (rt vgiven) (lnil)))) (lnil))) (opN s_law_headed (lcons (rt vone) (lnil)))))) (fun b => ite2 b ((rt (D.bl false)) R) ((tst (op2 (neT ownE 3) (opN s_product (lcons (opN s_product (lcons (rt vgiven) (lcons (opN s_law_given_form (lcons (rt vpot_here) (lcons (rt vother) (lnil)))) (lnil)))) (lcons (lstM (lcons (rt (D.int 2)) (lcons (rt (D.int 1)) (lnil)))) (lnil)))) (opN s_product (lcons (rt vgiven) (lcons (opN s_product (lcons (lstM (lcons (rt (D.int 2)) (lcons (rt (D.int 1)) (lnil)))) (lcons (opN s_law_given_form (lcons (rt vpot_here) (lcons (rt vother) (lnil)))) (lnil)))) (lnil)))))) (fun b => ite2 b ((rt (D.bl false)) R) ((andV (op2 (isBG) (opN s_divides (lcons (lstM (lcons (rt (D.int 1)) (lcons (rt (D.int 0)) (lnil)))) (lcons (lstM (lcons (rt (D.int 0)) (lcons (rt (D.int 1)) (lcons (rt (D.int 0)) (lnil))))) (lnil)))) (rt (D.bl true))) (andV (op2 (isBG) (opN s_divides (lcons (lstM (lcons (rt (D.int 1)) (lcons (rt (D.int 1)) (lnil)))) (lcons (lstM (lcons (rt (D.int 1)) (lcons (rt (D.int 0)) (lcons (rt (D.int 0)) (lnil))))) (lnil)))) (rt (D.bl false))) (op2 (eqT ownE 3) (opN s_rest_form (lcons (lstM (lcons (rt (D.int 0)) (lcons (rt (D.int 1)) (lnil)))) (lcons (lstM (lcons (rt (D.int 0)) (lcons (rt (D.int 0)) (lcons (rt (D.int 1)) (lcons (rt (D.int 0)) (lnil)))))) (lnil)))) (lstM (lcons (opN (mkM 0 s_Ratio_init [D.int 1]) (lcons (rt (D.int 0)) (lnil))) (lcons (opN (mkM 0 s_Ratio_init [D.int 1]) (lcons (rt (D.int 1)) (lnil))) (lcons (opN (mkM 0 s_Ratio_init [D.int 1]) (lcons (rt (D.int 0)) (lnil))) (lnil)))))))) R)))))) ds (() : Unit)))))))
  | _ => fail
theorem len_s_law_right_k42 : ∀ {ds : List D} {R : D → Prop}, s_law_right_k42 ds R → ds.length = 1
  | [], _, h => h.elim
  | [_], _, _ => rfl
  | _ :: _ :: _, _, h => h.elim
end Sl
set_option Elab.async false
set_option linter.all false
set_option maxRecDepth 100000
set_option maxHeartbeats 4000000
set_option exponentiation.threshold 20000
namespace K42
open PySem L2 Inn Uv Sl
def ct (K : PySem.W.Frag) : Ct := ⟨fun c => match c with | 0 => rc K | _ => 0, fun c => match c with | 0 => ["_top", "_bottom"] | _ => [], 1, K⟩
structure Txt (K : PySem.W.Frag) (mg : Str → Option Value) : Prop where
  C : AllC K (ct K)
  inj : ∀ c c', c < (ct K).n → c' < (ct K).n → (ct K).at_ c = (ct K).at_ c' → c = c'
  sub2 : ∀ c c', c < (ct K).n → c' < (ct K).n → c ≠ c' → PySem.W.subIn K (.ref ((ct K).at_ c')) (.ref ((ct K).at_ c)) = some false
  mg_Ratio : mg "Ratio" = some (.ref ((ct K).at_ 0))
  len : mg "len" = none
  abs : mg "abs" = none
  max : mg "max" = none
  min : mg "min" = none
  sum : mg "sum" = none
  all : mg "all" = none
  any : mg "any" = none
  divmod : mg "divmod" = none
  repr : mg "repr" = none
  range : mg "range" = none
  enumerate : mg "enumerate" = none
  zip : mg "zip" = none
  isinstance : mg "isinstance" = none
  int_ : mg "int" = none
  bool_ : mg "bool" = none
  str_ : mg "str" = none
  list_ : mg "list" = none
  tuple_ : mg "tuple" = none
  dict_ : mg "dict" = none
  gcd : mg "gcd" = some (.builtin "math.gcd")
  lcm : mg "lcm" = some (.builtin "math.lcm")
  c_MOST_NUMBERS : ∃ t, mg "MOST_NUMBERS" = some (.int 25 t)
  c_MOST_DEGREE : ∃ t, mg "MOST_DEGREE" = some (.int 24 t)
theorem Txt.E0 {P : Program} {w : World} {K : PySem.W.Frag} {mg : Str → Option Value} {base : Heap} (Tx : Txt K mg) : EqsB (ct K) P w K mg base 0 noE := ⟨fun _ _ => .inl fun _ _ h => h, same_noE, Tx.inj, Tx.sub2⟩
section
variable {P : Program} {w : World} {K : PySem.W.Frag} {mg : Str → Option Value} {base : Heap} {f : Addr} {fd : FuncData}
theorem ok_is_integer (F : FunD K "is_integer" "is_integer" (defArgs (top 20)) (defBody (top 20)) (defScope (top 20)) [] [] f fd) (Tx : Txt K mg)  : FnOk P w K mg base CX0 1 f fd ["value"] (SpD (ct K) false 1 s_is_integer) := by
  have sc : FnScope ["value"] ["value"] (defScope (top 20)) := ⟨rfl, rfl, rfl, by decide +kernel, rfl, by decide +kernel, by decide +kernel⟩
  refine fn_D F sc rfl fun cdv A' outer s0 H E W vs ds R Q hr n hm hq => ?_
  obtain ⟨vvalue, rfl⟩ : ∃ vvalue, ds = [vvalue] := len1 (len_s_is_integer hm)
  have n := n.as (ρ' := [some vvalue]) rfl
  unfold s_is_integer at hm
  have hq := fun y u H' a b c d => hq y u H' a b c d fun h => nomatch h
  exact w_retW n (dw_and (dw_isi Tx.C (sv 0 n.see) (ty_b .int Tx.int_ hv_int (fun _ h => nomatch h)) Tx.isinstance) (dw_one (dw_not (dw_isi Tx.C (sv 0 n.see) (ty_b .bool Tx.bool_ hv_bool (fun _ h => nomatch h)) Tx.isinstance)))) hm hq rfl
theorem ok_Ratio_init (F : FunD K "__init__" "Ratio.__init__" (defArgs (cm 22 0)) (defBody (cm 22 0)) (defScope (cm 22 0)) [.int 1] [] f fd) (Tx : Txt K mg) (D_is_integer : DefD (ct K) P w K mg base 1 "is_integer" false 1 s_is_integer) : FnOk P w K mg base CX0 4 f fd ["self", "top", "bottom"] (SpI (ct K) 0 2 s_Ratio_init) := by
  have sc : FnScope ["self", "top", "bottom", "shared"] ["self", "top", "bottom"] (defScope (cm 22 0)) := ⟨rfl, rfl, rfl, by decide +kernel, rfl, by decide +kernel, by decide +kernel⟩
  refine fn_I (n := 2) F sc rfl (by decide) fun cdv A' outer s0 H1 H E W p dx us ds R Q hr h0 n b hm hq => ?_
  obtain ⟨vtop, vbottom, rfl⟩ : ∃ vtop vbottom, ds = [vtop, vbottom] := len2 (len_s_Ratio_init hm)
  unfold s_Ratio_init at hm
  have n := (n.self0 0 h0).as (ρ' := [some (D.cls (.ref p)), some vtop, some vbottom, none]) rfl
  refine w_if n.base (tw_not (tw_tru (dw_call D_is_integer (hr.mono (by decide)) (l_cons (sv 1 n.see) l_nil)))) hm (fun _ n hm => hm.elim) (fun _ n1 hm => w_nil ?_)
  show Wss _ _ _ _ _
  have b := b.up n1
  have n := n.join n1
  refine w_if n.base (tw_w (ww_or (tw_not (tw_tru (dw_call D_is_integer (hr.mono (by decide)) (l_cons (sv 2 n.see) l_nil)))) (ww_or1 (tw_cmp (op_eqT Tx.E0 1 (hr.mono (by decide))) (sv 2 n.see) d_int)))) hm (fun _ n hm => hm.elim) (fun _ n1 hm => w_nil ?_)
  show Wss _ _ _ _ _
  have b := b.up n1
  have n := n.join n1
  refine w_set 3 n.base (dw_if (tw_cmp op_gtG (sv 2 n.see) d_int) (dw_Fn b_gcd Tx.gcd (l_cons (sv 1 n.see) (l_cons (sv 2 n.see) l_nil))) (dw_un (op_negG op1_never) (dw_Fn b_gcd Tx.gcd (l_cons (sv 1 n.see) (l_cons (sv 2 n.see) l_nil))))) hm sc.nd (fun vshared _ _ n1 hm => ?_)
  have b := b.up n1
  have n := (n.join n1).as (ρ' := [some (D.cls (.ref p)), some vtop, some vbottom, some vshared]) rfl
  refine w_fld n b (by show 0 < 1; decide) Tx.C n.ref0 rfl (dw_bin op_fdivG (sv 1 n.see) (sv 3 n.see)) hm (fun v_top _ _ n b hm => ?_)
  refine w_fld n b (by show 0 < 1; decide) Tx.C n.ref0 rfl (dw_bin op_fdivG (sv 2 n.see) (sv 3 n.see)) hm (fun v_bottom _ _ n b hm => ?_)
  exact w_nil (hq _ _ _ rfl hm n.up n.inv b)
theorem ok_ratios_over (F : FunD K "ratios_over" "ratios_over" (defArgs (top 27)) (defBody (top 27)) (defScope (top 27)) [] [] f fd) (Tx : Txt K mg) (M_Ratio2 : MkD (ct K) P w K mg base 4 0 "Ratio" 2 s_Ratio_init []) : FnOk P w K mg base CX0 6 f fd ["integers", "below"] (SpD (ct K) true 2 s_ratios_over) := by
  have sc : FnScope ["integers", "below", "number"] ["integers", "below"] (defScope (top 27)) := ⟨rfl, rfl, rfl, by decide +kernel, rfl, by decide +kernel, by decide +kernel⟩
  refine fn_D F sc rfl fun cdv A' outer s0 H E W vs ds R Q hr n hm hq => ?_
  obtain ⟨vintegers, vbelow, rfl⟩ : ∃ vintegers vbelow, ds = [vintegers, vbelow] := len2 (len_s_ratios_over hm)
  have n := n.as (ρ' := [some vintegers, some vbelow, none]) rfl
  unfold s_ratios_over at hm
  exact w_retF n (fd_1 2 (iw_val (sv 0 n.see)) n.see (fun _ _ _ _ _ _ _ _ vnumber S2 => have S2 := S2.as (ρ' := [some vintegers, some vbelow, some vnumber]) rfl; (fd_make M_Ratio2 (hr.mono (by decide)) (l_cons (sv 2 S2) (l_cons (sv 1 S2) l_nil)))) rfl sc.nd (blkOk_by (show blkC ["integers", "below", "number"] (defScope (top 27)) _ _ = true by decide +kernel)) (fun _ _ _ _ _ => pg_name (i := 2) sc.nd rfl (by first | exact Or.inl rfl | exact Or.inr rfl))) hm hq rfl
theorem ok_trimmed (F : FunD K "trimmed" "trimmed" (defArgs (top 3)) (defBody (top 3)) (defScope (top 3)) [] [] f fd) (Tx : Txt K mg)  : FnOk P w K mg base CX0 4 f fd ["numbers"] (SpD (ct K) false 1 s_trimmed) := by
  have sc : FnScope ["numbers", "many"] ["numbers"] (defScope (top 3)) := ⟨rfl, rfl, rfl, by decide +kernel, rfl, by decide +kernel, by decide +kernel⟩
  refine fn_D F sc rfl fun cdv A' outer s0 H E W vs ds R Q hr n hm hq => ?_
  obtain ⟨vnumbers, rfl⟩ : ∃ vnumbers, ds = [vnumbers] := len1 (len_s_trimmed hm)
  have n := n.as (ρ' := [some vnumbers, none]) rfl
  unfold s_trimmed at hm
  have hq := fun y u H' a b c d => hq y u H' a b c d fun h => nomatch h
  refine w_set 1 n (dw_B b_len Tx.len hv_len (l_cons (sv 0 n.see) l_nil)) hm sc.nd (fun vmany _ _ n1 hm => ?_)
  have n := n1.as (ρ' := [some vnumbers, some vmany]) rfl
  refine w_while (fun vs : D => [some vnumbers, some vs]) (vmany : D) n hm PassesOwn.never (n.cut (.same (.same .nil))) (fun vs _ _ n => ?_) (fun vs nx bk Nx Bk _ _ n h1 h2 hm => ?_) (fun vs _ _ n hm => ?_)
  · have n := n.as (ρ' := [some vnumbers, some vs]) rfl
    exact (tw_w (ww_and (tw_cmp op_gtG (sv 1 n.see) d_int) (ww_and1 (tw_cmp (op_eqT Tx.E0 1 (hr.mono (by decide))) (dw_ix (sv 0 n.see) (dw_bin (op_subG op_never) (sv 1 n.see) d_int)) d_int))))
  · have n := n.as (ρ' := [some vnumbers, some vs]) rfl
    refine w_set 1 n (dw_bin (op_subG op_never) (sv 1 n.see) d_int) hm sc.nd (fun vmany2 _ _ n1 hm => ?_)
    have n := n1.as (ρ' := [some vnumbers, some vmany2]) rfl
    exact w_nil (h1 vmany2 _ _ (n.cut (.same (.same .nil))) hm)
  · have n := n.as (ρ' := [some vnumbers, some vs]) rfl
    exact w_retW n (dw_Ty b_list Tx.list_ hv_list (l_cons (dw_slice (sv 0 n.see) p_none (p_some (sv 1 n.see))) l_nil)) hm hq rfl
theorem ok_told_shape (F : FunD K "told_shape" "told_shape" (defArgs (top 35)) (defBody (top 35)) (defScope (top 35)) [] [] f fd) (Tx : Txt K mg) (D_ratios_over : DefD (ct K) P w K mg base 6 "ratios_over" true 2 s_ratios_over) (D_trimmed : DefD (ct K) P w K mg base 4 "trimmed" false 1 s_trimmed) : FnOk P w K mg base CX0 7 f fd ["shape"] (SpD (ct K) true 1 s_told_shape) := by
  have sc : FnScope ["shape"] ["shape"] (defScope (top 35)) := ⟨rfl, rfl, rfl, by decide +kernel, rfl, by decide +kernel, by decide +kernel⟩
  refine fn_D F sc rfl fun cdv A' outer s0 H E W vs ds R Q hr n hm hq => ?_
  obtain ⟨vshape, rfl⟩ : ∃ vshape, ds = [vshape] := len1 (len_s_told_shape hm)
  have n := n.as (ρ' := [some vshape]) rfl
  unfold s_told_shape at hm
  exact w_retF n (fd_call D_ratios_over (hr.mono (by decide)) (l_cons (sv 0 n.see) (l_cons (dw_ix (dw_call D_trimmed (hr.mono (by decide)) (l_cons (sv 0 n.see) l_nil)) (dw_un (op_negG op1_never) d_int)) l_nil))) hm hq rfl
theorem ok_padded (F : FunD K "padded" "padded" (defArgs (top 33)) (defBody (top 33)) (defScope (top 33)) [] [] f fd) (Tx : Txt K mg)  : FnOk P w K mg base CX0 1 f fd ["poly", "many"] (SpD (ct K) false 2 s_padded) := by
  have sc : FnScope ["poly", "many"] ["poly", "many"] (defScope (top 33)) := ⟨rfl, rfl, rfl, by decide +kernel, rfl, by decide +kernel, by decide +kernel⟩
  refine fn_D F sc rfl fun cdv A' outer s0 H E W vs ds R Q hr n hm hq => ?_
  obtain ⟨vpoly, vmany, rfl⟩ : ∃ vpoly vmany, ds = [vpoly, vmany] := len2 (len_s_padded hm)
  have n := n.as (ρ' := [some vpoly, some vmany]) rfl
  unfold s_padded at hm
  have hq := fun y u H' a b c d => hq y u H' a b c d fun h => nomatch h
  exact w_retW n (dw_bin (op_addG op_never) (sv 0 n.see) (dw_bin (op_mulG op_never) (dw_lst (l_cons d_int l_nil)) (dw_bin (op_subG op_never) (dw_bin (op_addG op_never) (sv 1 n.see) d_int) (dw_B b_len Tx.len hv_len (l_cons (sv 0 n.see) l_nil))))) hm hq rfl
theorem ok_content (F : FunD K "content" "content" (defArgs (top 4)) (defBody (top 4)) (defScope (top 4)) [] [] f fd) (Tx : Txt K mg)  : FnOk P w K mg base CX0 4 f fd ["numbers"] (SpD (ct K) false 1 s_content) := by
  have sc : FnScope ["numbers", "shared", "number"] ["numbers"] (defScope (top 4)) := ⟨rfl, rfl, rfl, by decide +kernel, rfl, by decide +kernel, by decide +kernel⟩
  refine fn_D F sc rfl fun cdv A' outer s0 H E W vs ds R Q hr n hm hq => ?_
  obtain ⟨vnumbers, rfl⟩ : ∃ vnumbers, ds = [vnumbers] := len1 (len_s_content hm)
  have n := n.as (ρ' := [some vnumbers, none, none]) rfl
  unfold s_content at hm
  have hq := fun y u H' a b c d => hq y u H' a b c d fun h => nomatch h
  refine w_set 1 n (d_int) hm sc.nd (fun vshared _ _ n1 hm => ?_)
  have n := n1.as (ρ' := [some vnumbers, some vshared, none]) rfl
  refine w_for1 2 (fun vs : D => [some vnumbers, some vs, none]) (vshared : D) n (iw_val (sv 0 n.see)) hm sc.nd PassesOwn.never rfl (fun _ n => n.cut (.same (.same (.none .nil)))) (fun _ vnO vnumber vs nx bk Nx Bk _ _ n h1 h2 hm => ?_) (fun vs _ _ n hm => ?_)
  · have n := n.as (ρ' := [some vnumbers, some vs, some vnumber]) rfl
    refine w_set 1 n (dw_Fn b_gcd Tx.gcd (l_cons (sv 1 n.see) (l_cons (sv 2 n.see) l_nil))) hm sc.nd (fun vshared2 _ _ n1 hm => ?_)
    have n := n1.as (ρ' := [some vnumbers, some vshared2, some vnumber]) rfl
    refine w_if n (tw_cmp (op_eqT Tx.E0 1 (hr.mono (by decide))) (sv 1 n.see) d_int) hm (fun _ n hm => ?_) (fun _ n hm => ?_)
    · exact w_retW (vnO.join n) d_int hm hq rfl
    · refine w_nil ?_
      show Wss _ _ _ _ _
      exact w_nil (h1 vshared2 _ _ (n.cut (.same (.same (.none .nil)))) hm)
  · have n := n.as (ρ' := [some vnumbers, some vs, none]) rfl
    exact w_retW n (sv 1 n.see) hm hq rfl
theorem ok_without_content (F : FunD K "without_content" "without_content" (defArgs (top 5)) (defBody (top 5)) (defScope (top 5)) [] [] f fd) (Tx : Txt K mg) (D_content : DefD (ct K) P w K mg base 4 "content" false 1 s_content) : FnOk P w K mg base CX0 5 f fd ["numbers"] (SpD (ct K) false 1 s_without_content) := by
  have sc : FnScope ["numbers", "shared", "number"] ["numbers"] (defScope (top 5)) := ⟨rfl, rfl, rfl, by decide +kernel, rfl, by decide +kernel, by decide +kernel⟩
  refine fn_D F sc rfl fun cdv A' outer s0 H E W vs ds R Q hr n hm hq => ?_
  obtain ⟨vnumbers, rfl⟩ : ∃ vnumbers, ds = [vnumbers] := len1 (len_s_without_content hm)
  have n := n.as (ρ' := [some vnumbers, none, none]) rfl
  unfold s_without_content at hm
  have hq := fun y u H' a b c d => hq y u H' a b c d fun h => nomatch h
  refine w_set 1 n (dw_call D_content (hr.mono (by decide)) (l_cons (sv 0 n.see) l_nil)) hm sc.nd (fun vshared _ _ n1 hm => ?_)
  have n := n1.as (ρ' := [some vnumbers, some vshared, none]) rfl
  exact w_retW n (dw_if (tw_cmp op_gtG (sv 1 n.see) d_int) (dc_1 2 (iw_val (sv 0 n.see)) n.see (fun _ _ _ _ _ _ _ _ vnumber S2 => have S2 := S2.as (ρ' := [some vnumbers, some vshared, some vnumber]) rfl; (dw_bin op_fdivG (sv 2 S2) (sv 1 S2))) rfl sc.nd (blkOk_by (show blkC ["numbers", "shared", "number"] (defScope (top 5)) _ _ = true by decide +kernel)) (fun _ _ _ _ _ => pg_name (i := 2) sc.nd rfl (by first | exact Or.inl rfl | exact Or.inr rfl))).dw (dw_Ty b_list Tx.list_ hv_list (l_cons (sv 0 n.see) l_nil))) hm hq rfl
theorem ok_negated (F : FunD K "negated" "negated" (defArgs (top 7)) (defBody (top 7)) (defScope (top 7)) [] [] f fd) (Tx : Txt K mg)  : FnOk P w K mg base CX0 1 f fd ["poly"] (SpD (ct K) false 1 s_negated) := by
  have sc : FnScope ["poly", "number"] ["poly"] (defScope (top 7)) := ⟨rfl, rfl, rfl, by decide +kernel, rfl, by decide +kernel, by decide +kernel⟩
  refine fn_D F sc rfl fun cdv A' outer s0 H E W vs ds R Q hr n hm hq => ?_
  obtain ⟨vpoly, rfl⟩ : ∃ vpoly, ds = [vpoly] := len1 (len_s_negated hm)
  have n := n.as (ρ' := [some vpoly, none]) rfl
  unfold s_negated at hm
  have hq := fun y u H' a b c d => hq y u H' a b c d fun h => nomatch h
  exact w_retW n (dc_1 1 (iw_val (sv 0 n.see)) n.see (fun _ _ _ _ _ _ _ _ vnumber S2 => have S2 := S2.as (ρ' := [some vpoly, some vnumber]) rfl; (dw_un (op_negG op1_never) (sv 1 S2))) rfl sc.nd (blkOk_by (show blkC ["poly", "number"] (defScope (top 7)) _ _ = true by decide +kernel)) (fun _ _ _ _ _ => pg_name (i := 1) sc.nd rfl (by first | exact Or.inl rfl | exact Or.inr rfl))).dw hm hq rfl
theorem ok_bare (F : FunD K "bare" "bare" (defArgs (top 6)) (defBody (top 6)) (defScope (top 6)) [] [] f fd) (Tx : Txt K mg) (D_negated : DefD (ct K) P w K mg base 1 "negated" false 1 s_negated) (D_trimmed : DefD (ct K) P w K mg base 4 "trimmed" false 1 s_trimmed) (D_without_content : DefD (ct K) P w K mg base 5 "without_content" false 1 s_without_content) : FnOk P w K mg base CX0 6 f fd ["numbers"] (SpD (ct K) false 1 s_bare) := by
  have sc : FnScope ["numbers", "poly"] ["numbers"] (defScope (top 6)) := ⟨rfl, rfl, rfl, by decide +kernel, rfl, by decide +kernel, by decide +kernel⟩
  refine fn_D F sc rfl fun cdv A' outer s0 H E W vs ds R Q hr n hm hq => ?_
  obtain ⟨vnumbers, rfl⟩ : ∃ vnumbers, ds = [vnumbers] := len1 (len_s_bare hm)
  have n := n.as (ρ' := [some vnumbers, none]) rfl
  unfold s_bare at hm
  have hq := fun y u H' a b c d => hq y u H' a b c d fun h => nomatch h
  refine w_set 1 n (dw_call D_without_content (hr.mono (by decide)) (l_cons (dw_call D_trimmed (hr.mono (by decide)) (l_cons (sv 0 n.see) l_nil)) l_nil)) hm sc.nd (fun vpoly _ _ n1 hm => ?_)
  have n := n1.as (ρ' := [some vnumbers, some vpoly]) rfl
  exact w_retW n (dw_if (tw_w (ww_and (tw_tru (sv 1 n.see)) (ww_and1 (tw_cmp op_ltG (dw_ix (sv 1 n.see) (dw_un (op_negG op1_never) d_int)) d_int)))) (dw_call D_negated (hr.mono (by decide)) (l_cons (sv 1 n.see) l_nil)) (sv 1 n.see)) hm hq rfl
theorem ok_shaped (F : FunD K "shaped" "shaped" (defArgs (top 34)) (defBody (top 34)) (defScope (top 34)) [] [] f fd) (Tx : Txt K mg) (D_bare : DefD (ct K) P w K mg base 6 "bare" false 1 s_bare) (D_padded : DefD (ct K) P w K mg base 1 "padded" false 2 s_padded) : FnOk P w K mg base CX0 7 f fd ["numbers"] (SpD (ct K) false 1 s_shaped) := by
  have sc : FnScope ["numbers"] ["numbers"] (defScope (top 34)) := ⟨rfl, rfl, rfl, by decide +kernel, rfl, by decide +kernel, by decide +kernel⟩
  refine fn_D F sc rfl fun cdv A' outer s0 H E W vs ds R Q hr n hm hq => ?_
  obtain ⟨vnumbers, rfl⟩ : ∃ vnumbers, ds = [vnumbers] := len1 (len_s_shaped hm)
  have n := n.as (ρ' := [some vnumbers]) rfl
  unfold s_shaped at hm
  have hq := fun y u H' a b c d => hq y u H' a b c d fun h => nomatch h
  exact w_retW n (dw_call D_padded (hr.mono (by decide)) (l_cons (dw_call D_bare (hr.mono (by decide)) (l_cons (sv 0 n.see) l_nil)) (l_cons (dw_bin (op_subG op_never) (dw_B b_len Tx.len hv_len (l_cons (sv 0 n.see) l_nil)) d_int) l_nil))) hm hq rfl
theorem ok_is_number (F : FunD K "is_number" "is_number" (defArgs (top 23)) (defBody (top 23)) (defScope (top 23)) [] [] f fd) (Tx : Txt K mg) (D_is_integer : DefD (ct K) P w K mg base 1 "is_integer" false 1 s_is_integer) : FnOk P w K mg base CX0 2 f fd ["value"] (SpD (ct K) false 1 s_is_number) := by
  have sc : FnScope ["value"] ["value"] (defScope (top 23)) := ⟨rfl, rfl, rfl, by decide +kernel, rfl, by decide +kernel, by decide +kernel⟩
  refine fn_D F sc rfl fun cdv A' outer s0 H E W vs ds R Q hr n hm hq => ?_
  obtain ⟨vvalue, rfl⟩ : ∃ vvalue, ds = [vvalue] := len1 (len_s_is_number hm)
  have n := n.as (ρ' := [some vvalue]) rfl
  unfold s_is_number at hm
  have hq := fun y u H' a b c d => hq y u H' a b c d fun h => nomatch h
  exact w_retW n (dw_or (dw_isi Tx.C (sv 0 n.see) (ty_c 0 (by show 0 < 1; decide) Tx.mg_Ratio) Tx.isinstance) (dw_one (dw_call D_is_integer (hr.mono (by decide)) (l_cons (sv 0 n.see) l_nil)))) hm hq rfl
theorem ok_is_poly (F : FunD K "is_poly" "is_poly" (defArgs (top 31)) (defBody (top 31)) (defScope (top 31)) [] [] f fd) (Tx : Txt K mg) (D_is_number : DefD (ct K) P w K mg base 2 "is_number" false 1 s_is_number) : FnOk P w K mg base CX0 3 f fd ["value"] (SpD (ct K) false 1 s_is_poly) := by
  have sc : FnScope ["value", "number"] ["value"] (defScope (top 31)) := ⟨rfl, rfl, rfl, by decide +kernel, rfl, by decide +kernel, by decide +kernel⟩
  obtain ⟨_, h_MOST_NUMBERS⟩ := Tx.c_MOST_NUMBERS
  refine fn_D F sc rfl fun cdv A' outer s0 H E W vs ds R Q hr n hm hq => ?_
  obtain ⟨vvalue, rfl⟩ : ∃ vvalue, ds = [vvalue] := len1 (len_s_is_poly hm)
  have n := n.as (ρ' := [some vvalue, none]) rfl
  unfold s_is_poly at hm
  have hq := fun y u H' a b c d => hq y u H' a b c d fun h => nomatch h
  refine w_if n (tw_w (ww_or (tw_not (tw_tru (dw_isi2 Tx.C (sv 0 n.see) (ty_b .list Tx.list_ hv_list (fun _ h => nomatch h)) (ty_b .tuple Tx.tuple_ hv_tuple (fun _ h => nomatch h)) Tx.isinstance))) (ww_or1 (tw_cmp op_gtG (dw_B b_len Tx.len hv_len (l_cons (sv 0 n.see) l_nil)) (d_gint h_MOST_NUMBERS))))) hm (fun _ n hm => ?_) (fun _ n hm => ?_)
  · exact w_retW n d_bl hm hq rfl
  · refine w_nil ?_
    show Wss _ _ _ _ _
    exact w_retW n (dw_B (b_all rfl) Tx.all hv_all (l_cons (dc_1 1 (iw_val (sv 0 n.see)) n.see (fun _ _ _ _ _ _ _ _ vnumber S2 => have S2 := S2.as (ρ' := [some vvalue, some vnumber]) rfl; (dw_call D_is_number (hr.mono (by decide)) (l_cons (sv 1 S2) l_nil))) rfl sc.nd (blkOk_by (show blkC ["value", "number"] (defScope (top 31)) _ _ = true by decide +kernel)) (fun _ _ _ _ _ => pg_name (i := 1) sc.nd rfl (by first | exact Or.inl rfl | exact Or.inr rfl))).dw l_nil)) hm hq rfl
theorem ok_need_number (F : FunD K "need_number" "need_number" (defArgs (top 24)) (defBody (top 24)) (defScope (top 24)) [] [] f fd) (Tx : Txt K mg) (D_is_number : DefD (ct K) P w K mg base 2 "is_number" false 1 s_is_number) : FnOk P w K mg base CX0 3 f fd ["value"] (SpD (ct K) false 1 s_need_number) := by
  have sc : FnScope ["value"] ["value"] (defScope (top 24)) := ⟨rfl, rfl, rfl, by decide +kernel, rfl, by decide +kernel, by decide +kernel⟩
  refine fn_D F sc rfl fun cdv A' outer s0 H E W vs ds R Q hr n hm hq => ?_
  obtain ⟨vvalue, rfl⟩ : ∃ vvalue, ds = [vvalue] := len1 (len_s_need_number hm)
  have n := n.as (ρ' := [some vvalue]) rfl
  unfold s_need_number at hm
  have hq := fun y u H' a b c d => hq y u H' a b c d fun h => nomatch h
  refine w_if n (tw_not (tw_tru (dw_call D_is_number (hr.mono (by decide)) (l_cons (sv 0 n.see) l_nil)))) hm (fun _ n hm => ?_) (fun _ n hm => ?_)
  · exact hm.elim
  · refine w_nil ?_
    show Wss _ _ _ _ _
    exact w_nil (hq D.non .non _ hm n.up n.inv .non)
theorem ok_pair_of (F : FunD K "pair_of" "pair_of" (defArgs (top 25)) (defBody (top 25)) (defScope (top 25)) [] [] f fd) (Tx : Txt K mg) (D_need_number : DefD (ct K) P w K mg base 3 "need_number" false 1 s_need_number) : FnOk P w K mg base CX0 4 f fd ["number"] (SpD (ct K) false 1 s_pair_of) := by
  have sc : FnScope ["number"] ["number"] (defScope (top 25)) := ⟨rfl, rfl, rfl, by decide +kernel, rfl, by decide +kernel, by decide +kernel⟩
  refine fn_D F sc rfl fun cdv A' outer s0 H E W vs ds R Q hr n hm hq => ?_
  obtain ⟨vnumber, rfl⟩ : ∃ vnumber, ds = [vnumber] := len1 (len_s_pair_of hm)
  have n := n.as (ρ' := [some vnumber]) rfl
  unfold s_pair_of at hm
  have hq := fun y u H' a b c d => hq y u H' a b c d fun h => nomatch h
  refine w_if n (tw_tru (dw_isi Tx.C (sv 0 n.see) (ty_c 0 (by show 0 < 1; decide) Tx.mg_Ratio) Tx.isinstance)) hm (fun _ n hm => ?_) (fun _ n hm => ?_)
  · exact w_retW n (dw_tup (l_cons (dw_fld 0 0 (by show 0 < 1; decide) Tx.C rfl (sv 0 n.see)) (l_cons (dw_fld 0 1 (by show 0 < 1; decide) Tx.C rfl (sv 0 n.see)) l_nil))) hm hq rfl
  · refine w_nil ?_
    show Wss _ _ _ _ _
    refine w_expr n (dw_call D_need_number (hr.mono (by decide)) (l_cons (sv 0 n.see) l_nil)) hm (fun _ _ n hm => ?_)
    exact w_retW n (dw_tup (l_cons (sv 0 n.see) (l_cons d_int l_nil))) hm hq rfl
theorem ok_cleared (F : FunD K "cleared" "cleared" (defArgs (top 26)) (defBody (top 26)) (defScope (top 26)) [] [] f fd) (Tx : Txt K mg) (D_pair_of : DefD (ct K) P w K mg base 4 "pair_of" false 1 s_pair_of) : FnOk P w K mg base CX0 5 f fd ["numbers"] (SpD (ct K) false 1 s_cleared) := by
  have sc : FnScope ["numbers", "pairs", "below", "_", "bottom", "number", "top"] ["numbers"] (defScope (top 26)) := ⟨rfl, rfl, rfl, by decide +kernel, rfl, by decide +kernel, by decide +kernel⟩
  refine fn_D F sc rfl fun cdv A' outer s0 H E W vs ds R Q hr n hm hq => ?_
  obtain ⟨vnumbers, rfl⟩ : ∃ vnumbers, ds = [vnumbers] := len1 (len_s_cleared hm)
  have n := n.as (ρ' := [some vnumbers, none, none, none, none, none, none]) rfl
  unfold s_cleared at hm
  have hq := fun y u H' a b c d => hq y u H' a b c d fun h => nomatch h
  refine w_setC 1 n (dc_1 5 (iw_val (sv 0 n.see)) n.see (fun _ _ _ _ _ _ _ _ vnumber S2 => have S2 := S2.as (ρ' := [some vnumbers, none, none, none, none, some vnumber, none]) rfl; (dw_call D_pair_of (hr.mono (by decide)) (l_cons (sv 5 S2) l_nil))) rfl sc.nd (blkOk_by (show blkC ["numbers", "pairs", "below", "_", "bottom", "number", "top"] (defScope (top 26)) _ _ = true by decide +kernel)) (fun _ _ _ _ _ => pg_name (i := 5) sc.nd rfl (by first | exact Or.inl rfl | exact Or.inr rfl))) hm (fun vpairs _ _ n1 hm => ?_)
  have n := n1.as (ρ' := [some vnumbers, some vpairs, none, none, none, none, none]) rfl
  refine w_set 2 n (d_int) hm sc.nd (fun vbelow _ _ n1 hm => ?_)
  have n := n1.as (ρ' := [some vnumbers, some vpairs, some vbelow, none, none, none, none]) rfl
  refine w_for2 3 4 (fun vs : D => [some vnumbers, some vpairs, some vs, none, none, none, none]) (vbelow : D) n (iw_val (sv 1 n.see)) hm sc.nd PassesOwn.never rfl (fun _ n => n.cut (.same (.same (.same (.none (.none (.none (.none .nil)))))))) (fun _ vnO v_ vbottom vs nx bk Nx Bk _ _ n h1 h2 hm => ?_) (fun vs _ _ n hm => ?_)
  · have n := n.as (ρ' := [some vnumbers, some vpairs, some vs, some v_, some vbottom, none, none]) rfl
    refine w_set 2 n (dw_Fn b_lcm Tx.lcm (l_cons (sv 2 n.see) (l_cons (sv 4 n.see) l_nil))) hm sc.nd (fun vbelow2 _ _ n1 hm => ?_)
    have n := n1.as (ρ' := [some vnumbers, some vpairs, some vbelow2, some v_, some vbottom, none, none]) rfl
    exact w_nil (h1 vbelow2 _ _ (n.cut (.same (.same (.same (.none (.none (.none (.none .nil)))))))) hm)
  · have n := n.as (ρ' := [some vnumbers, some vpairs, some vs, none, none, none, none]) rfl
    exact w_retW n (dw_tup (l_cons (dc_2 6 4 (iw_val (sv 1 n.see)) n.see (by decide) (fun _ _ _ _ _ _ _ _ vtop vbottom2 S2 => have S2 := S2.as (ρ' := [some vnumbers, some vpairs, some vs, none, some vbottom2, none, some vtop]) rfl; (dw_bin (op_mulG op_never) (sv 6 S2) (dw_bin op_fdivG (sv 2 S2) (sv 4 S2)))) rfl sc.nd (blkOk_by (show blkC ["numbers", "pairs", "below", "_", "bottom", "number", "top"] (defScope (top 26)) _ _ = true by decide +kernel)) (fun _ _ _ _ _ => pg_tup rfl (pgs_cons (pg_name (i := 6) sc.nd rfl (Or.inl rfl)) (pgs_cons (pg_name (i := 4) sc.nd rfl (Or.inl rfl)) pgs_nil rfl) rfl) rfl rfl)).dw (l_cons (sv 2 n.see) l_nil))) hm hq rfl
theorem ok_is_form (F : FunD K "is_form" "is_form" (defArgs (top 40)) (defBody (top 40)) (defScope (top 40)) [] [] f fd) (Tx : Txt K mg) (D_cleared : DefD (ct K) P w K mg base 5 "cleared" false 1 s_cleared) (D_is_poly : DefD (ct K) P w K mg base 3 "is_poly" false 1 s_is_poly) : FnOk P w K mg base CX0 6 f fd ["value"] (SpD (ct K) false 1 s_is_form) := by
  have sc : FnScope ["value"] ["value"] (defScope (top 40)) := ⟨rfl, rfl, rfl, by decide +kernel, rfl, by decide +kernel, by decide +kernel⟩
  refine fn_D F sc rfl fun cdv A' outer s0 H E W vs ds R Q hr n hm hq => ?_
  obtain ⟨vvalue, rfl⟩ : ∃ vvalue, ds = [vvalue] := len1 (len_s_is_form hm)
  have n := n.as (ρ' := [some vvalue]) rfl
  unfold s_is_form at hm
  have hq := fun y u H' a b c d => hq y u H' a b c d fun h => nomatch h
  exact w_retW n (dw_and (dw_call D_is_poly (hr.mono (by decide)) (l_cons (sv 0 n.see) l_nil)) (dw_one (dw_B (b_anyG rfl) Tx.any hv_any (l_cons (dw_ix (dw_call D_cleared (hr.mono (by decide)) (l_cons (sv 0 n.see) l_nil)) d_int) l_nil)))) hm hq rfl
theorem ok_shape_of (F : FunD K "shape_of" "shape_of" (defArgs (top 41)) (defBody (top 41)) (defScope (top 41)) [] [] f fd) (Tx : Txt K mg) (D_cleared : DefD (ct K) P w K mg base 5 "cleared" false 1 s_cleared) (D_is_form : DefD (ct K) P w K mg base 6 "is_form" false 1 s_is_form) (D_shaped : DefD (ct K) P w K mg base 7 "shaped" false 1 s_shaped) : FnOk P w K mg base CX0 8 f fd ["form"] (SpD (ct K) false 1 s_shape_of) := by
  have sc : FnScope ["form"] ["form"] (defScope (top 41)) := ⟨rfl, rfl, rfl, by decide +kernel, rfl, by decide +kernel, by decide +kernel⟩
  refine fn_D F sc rfl fun cdv A' outer s0 H E W vs ds R Q hr n hm hq => ?_
  obtain ⟨vform, rfl⟩ : ∃ vform, ds = [vform] := len1 (len_s_shape_of hm)
  have n := n.as (ρ' := [some vform]) rfl
  unfold s_shape_of at hm
  have hq := fun y u H' a b c d => hq y u H' a b c d fun h => nomatch h
  refine w_if n (tw_not (tw_tru (dw_call D_is_form (hr.mono (by decide)) (l_cons (sv 0 n.see) l_nil)))) hm (fun _ n hm => ?_) (fun _ n hm => ?_)
  · exact hm.elim
  · refine w_nil ?_
    show Wss _ _ _ _ _
    exact w_retW n (dw_call D_shaped (hr.mono (by decide)) (l_cons (dw_ix (dw_call D_cleared (hr.mono (by decide)) (l_cons (sv 0 n.see) l_nil)) d_int) l_nil)) hm hq rfl
theorem ok_noughts_behind (F : FunD K "noughts_behind" "noughts_behind" (defArgs (top 36)) (defBody (top 36)) (defScope (top 36)) [] [] f fd) (Tx : Txt K mg) (D_trimmed : DefD (ct K) P w K mg base 4 "trimmed" false 1 s_trimmed) : FnOk P w K mg base CX0 5 f fd ["shape"] (SpD (ct K) false 1 s_noughts_behind) := by
  have sc : FnScope ["shape"] ["shape"] (defScope (top 36)) := ⟨rfl, rfl, rfl, by decide +kernel, rfl, by decide +kernel, by decide +kernel⟩
  refine fn_D F sc rfl fun cdv A' outer s0 H E W vs ds R Q hr n hm hq => ?_
  obtain ⟨vshape, rfl⟩ : ∃ vshape, ds = [vshape] := len1 (len_s_noughts_behind hm)
  have n := n.as (ρ' := [some vshape]) rfl
  unfold s_noughts_behind at hm
  have hq := fun y u H' a b c d => hq y u H' a b c d fun h => nomatch h
  exact w_retW n (dw_bin (op_subG op_never) (dw_B b_len Tx.len hv_len (l_cons (sv 0 n.see) l_nil)) (dw_B b_len Tx.len hv_len (l_cons (dw_call D_trimmed (hr.mono (by decide)) (l_cons (sv 0 n.see) l_nil)) l_nil))) hm hq rfl
theorem ok_multiplied (F : FunD K "multiplied" "multiplied" (defArgs (top 9)) (defBody (top 9)) (defScope (top 9)) [] [] f fd) (Tx : Txt K mg)  : FnOk P w K mg base CX0 1 f fd ["first", "second"] (SpD (ct K) false 2 s_multiplied) := by
  have sc : FnScope ["first", "second", "wide", "last", "power", "at"] ["first", "second"] (defScope (top 9)) := ⟨rfl, rfl, rfl, by decide +kernel, rfl, by decide +kernel, by decide +kernel⟩
  refine fn_D F sc rfl fun cdv A' outer s0 H E W vs ds R Q hr n hm hq => ?_
  obtain ⟨vfirst, vsecond, rfl⟩ : ∃ vfirst vsecond, ds = [vfirst, vsecond] := len2 (len_s_multiplied hm)
  have n := n.as (ρ' := [some vfirst, some vsecond, none, none, none, none]) rfl
  unfold s_multiplied at hm
  have hq := fun y u H' a b c d => hq y u H' a b c d fun h => nomatch h
  refine w_if n (tw_w (ww_or (tw_not (tw_tru (sv 0 n.see))) (ww_or1 (tw_not (tw_tru (sv 1 n.see)))))) hm (fun _ n hm => ?_) (fun _ n hm => ?_)
  · exact w_retW n (dw_lst l_nil) hm hq rfl
  · refine w_nil ?_
    show Wss _ _ _ _ _
    refine w_unp n (.cons (i := 2) rfl (by first | exact Or.inl rfl | exact Or.inr rfl) (by first | exact .inl rfl | exact .inr rfl) rfl (.cons (i := 3) rfl (by first | exact Or.inl rfl | exact Or.inr rfl) (by first | exact .inl rfl | exact .inr rfl) rfl .nil)) (dw_tup (l_cons (dw_B b_len Tx.len hv_len (l_cons (sv 1 n.see) l_nil)) (l_cons (dw_bin (op_subG op_never) (dw_B b_len Tx.len hv_len (l_cons (sv 0 n.see) l_nil)) d_int) l_nil))) hm sc.nd rfl (fun ds _ _ hl n1 hm => ?_)
    obtain ⟨vwide, vlast, rfl⟩ := len2 hl
    have hm := l2_ap hm
    have n := n1.as (ρ' := [some vfirst, some vsecond, some vwide, some vlast, none, none]) rfl
    exact w_retW n (dc_1 4 (iw_range1 (l_cons (dw_bin (op_addG op_never) (sv 3 n.see) (sv 2 n.see)) l_nil) Tx.range) n.see (fun _ _ _ _ _ _ _ _ vpower S2 => have S2 := S2.as (ρ' := [some vfirst, some vsecond, some vwide, some vlast, some vpower, none]) rfl; (dw_B (b_sum rfl) Tx.sum hv_sum (l_cons (dc_1 5 (iw_range2 (l_cons (dw_B (b_max rfl) Tx.max hv_max (l_cons d_int (l_cons (dw_bin (op_addG op_never) (dw_bin (op_subG op_never) (sv 4 S2) (sv 2 S2)) d_int) l_nil))) (l_cons (dw_bin (op_addG op_never) (dw_B (b_min rfl) Tx.min hv_min (l_cons (sv 4 S2) (l_cons (sv 3 S2) l_nil))) d_int) l_nil)) Tx.range) S2 (fun _ _ _ _ _ _ _ _ vat S2 => have S2 := S2.as (ρ' := [some vfirst, some vsecond, some vwide, some vlast, some vpower, some vat]) rfl; (dw_bin (op_mulG op_never) (dw_ix (sv 0 S2) (sv 5 S2)) (dw_ix (sv 1 S2) (dw_bin (op_subG op_never) (sv 4 S2) (sv 5 S2))))) rfl sc.nd (blkOk_by (by kernel_rfl)) (fun _ _ _ _ _ => pg_name (i := 5) sc.nd rfl (by first | exact Or.inl rfl | exact Or.inr rfl))).dw l_nil))) rfl sc.nd (blkOk_by (show blkC ["first", "second", "wide", "last", "power", "at"] (defScope (top 9)) _ _ = true by decide +kernel)) (fun _ _ _ _ _ => pg_name (i := 4) sc.nd rfl (by first | exact Or.inl rfl | exact Or.inr rfl))).dw hm hq rfl
theorem ok_product (F : FunD K "product" "product" (defArgs (top 43)) (defBody (top 43)) (defScope (top 43)) [] [] f fd) (Tx : Txt K mg) (D_multiplied : DefD (ct K) P w K mg base 1 "multiplied" false 2 s_multiplied) (D_noughts_behind : DefD (ct K) P w K mg base 5 "noughts_behind" false 1 s_noughts_behind) (D_shape_of : DefD (ct K) P w K mg base 8 "shape_of" false 1 s_shape_of) (D_told_shape : DefD (ct K) P w K mg base 7 "told_shape" true 1 s_told_shape) (D_trimmed : DefD (ct K) P w K mg base 4 "trimmed" false 1 s_trimmed) : FnOk P w K mg base CX0 9 f fd ["form", "other"] (SpD (ct K) true 2 s_product) := by
  have sc : FnScope ["form", "other", "first", "second", "noughts"] ["form", "other"] (defScope (top 43)) := ⟨rfl, rfl, rfl, by decide +kernel, rfl, by decide +kernel, by decide +kernel⟩
  obtain ⟨_, h_MOST_DEGREE⟩ := Tx.c_MOST_DEGREE
  refine fn_D F sc rfl fun cdv A' outer s0 H E W vs ds R Q hr n hm hq => ?_
  obtain ⟨vform, vother, rfl⟩ : ∃ vform vother, ds = [vform, vother] := len2 (len_s_product hm)
  have n := n.as (ρ' := [some vform, some vother, none, none, none]) rfl
  unfold s_product at hm
  refine w_par 2 3 n (l_cons (dw_call D_shape_of (hr.mono (by decide)) (l_cons (sv 0 n.see) l_nil)) (l_cons (dw_call D_shape_of (hr.mono (by decide)) (l_cons (sv 1 n.see) l_nil)) l_nil)) hm rfl sc.nd (fun vfirst vsecond _ _ n1 hm => ?_) l2_len
  have hm := l2_ap hm
  have n := n1.as (ρ' := [some vform, some vother, some vfirst, some vsecond, none]) rfl
  refine w_if n (tw_cmp op_gtG (dw_bin (op_subG op_never) (dw_bin (op_addG op_never) (dw_B b_len Tx.len hv_len (l_cons (sv 2 n.see) l_nil)) (dw_B b_len Tx.len hv_len (l_cons (sv 3 n.see) l_nil))) d_int) (d_gint h_MOST_DEGREE)) hm (fun _ n hm => ?_) (fun _ n hm => ?_)
  · exact hm.elim
  · refine w_nil ?_
    show Wss _ _ _ _ _
    refine w_set 4 n (dw_bin (op_addG op_never) (dw_call D_noughts_behind (hr.mono (by decide)) (l_cons (sv 2 n.see) l_nil)) (dw_call D_noughts_behind (hr.mono (by decide)) (l_cons (sv 3 n.see) l_nil))) hm sc.nd (fun vnoughts _ _ n1 hm => ?_)
    have n := n1.as (ρ' := [some vform, some vother, some vfirst, some vsecond, some vnoughts]) rfl
    exact w_retF n (fd_call D_told_shape (hr.mono (by decide)) (l_cons (dw_bin (op_addG op_never) (dw_call D_multiplied (hr.mono (by decide)) (l_cons (dw_call D_trimmed (hr.mono (by decide)) (l_cons (sv 2 n.see) l_nil)) (l_cons (dw_call D_trimmed (hr.mono (by decide)) (l_cons (sv 3 n.see) l_nil)) l_nil))) (dw_bin (op_mulG op_never) (dw_lst (l_cons d_int l_nil)) (sv 4 n.see))) l_nil)) hm hq rfl
theorem ok_Ratio_top (F : FunD K "top" "Ratio.top" (defArgs (cm 22 1)) (defBody (cm 22 1)) (defScope (cm 22 1)) [] [] f fd) (Tx : Txt K mg)  : FnOk P w K mg base CX0 1 f fd ["self"] (SpD (ct K) false 1 s_Ratio_top) := by
  have sc : FnScope ["self"] ["self"] (defScope (cm 22 1)) := ⟨rfl, rfl, rfl, by decide +kernel, rfl, by decide +kernel, by decide +kernel⟩
  refine fn_D F sc rfl fun cdv A' outer s0 H E W vs ds R Q hr n hm hq => ?_
  obtain ⟨vself, rfl⟩ : ∃ vself, ds = [vself] := len1 (len_s_Ratio_top hm)
  have n := n.as (ρ' := [some vself]) rfl
  unfold s_Ratio_top at hm
  have hq := fun y u H' a b c d => hq y u H' a b c d fun h => nomatch h
  exact w_retW n (dw_fld 0 0 (by show 0 < 1; decide) Tx.C rfl (sv 0 n.see)) hm hq rfl
theorem ok_Ratio_bottom (F : FunD K "bottom" "Ratio.bottom" (defArgs (cm 22 2)) (defBody (cm 22 2)) (defScope (cm 22 2)) [] [] f fd) (Tx : Txt K mg)  : FnOk P w K mg base CX0 1 f fd ["self"] (SpD (ct K) false 1 s_Ratio_bottom) := by
  have sc : FnScope ["self"] ["self"] (defScope (cm 22 2)) := ⟨rfl, rfl, rfl, by decide +kernel, rfl, by decide +kernel, by decide +kernel⟩
  refine fn_D F sc rfl fun cdv A' outer s0 H E W vs ds R Q hr n hm hq => ?_
  obtain ⟨vself, rfl⟩ : ∃ vself, ds = [vself] := len1 (len_s_Ratio_bottom hm)
  have n := n.as (ρ' := [some vself]) rfl
  unfold s_Ratio_bottom at hm
  have hq := fun y u H' a b c d => hq y u H' a b c d fun h => nomatch h
  exact w_retW n (dw_fld 0 1 (by show 0 < 1; decide) Tx.C rfl (sv 0 n.see)) hm hq rfl
theorem ok_scaled_by (F : FunD K "scaled_by" "scaled_by" (defArgs (top 8)) (defBody (top 8)) (defScope (top 8)) [] [] f fd) (Tx : Txt K mg)  : FnOk P w K mg base CX0 4 f fd ["poly", "number"] (SpD (ct K) false 2 s_scaled_by) := by
  have sc : FnScope ["poly", "number", "part"] ["poly", "number"] (defScope (top 8)) := ⟨rfl, rfl, rfl, by decide +kernel, rfl, by decide +kernel, by decide +kernel⟩
  refine fn_D F sc rfl fun cdv A' outer s0 H E W vs ds R Q hr n hm hq => ?_
  obtain ⟨vpoly, vnumber, rfl⟩ : ∃ vpoly vnumber, ds = [vpoly, vnumber] := len2 (len_s_scaled_by hm)
  have n := n.as (ρ' := [some vpoly, some vnumber, none]) rfl
  unfold s_scaled_by at hm
  have hq := fun y u H' a b c d => hq y u H' a b c d fun h => nomatch h
  exact w_retW n (dw_if (tw_cmp (op_neT Tx.E0 1 (hr.mono (by decide))) (sv 1 n.see) d_int) (dc_1 2 (iw_val (sv 0 n.see)) n.see (fun _ _ _ _ _ _ _ _ vpart S2 => have S2 := S2.as (ρ' := [some vpoly, some vnumber, some vpart]) rfl; (dw_bin (op_mulG op_never) (sv 1 S2) (sv 2 S2))) rfl sc.nd (blkOk_by (show blkC ["poly", "number", "part"] (defScope (top 8)) _ _ = true by decide +kernel)) (fun _ _ _ _ _ => pg_name (i := 2) sc.nd rfl (by first | exact Or.inl rfl | exact Or.inr rfl))).dw (dw_lst l_nil)) hm hq rfl
theorem ok_divided_bare (F : FunD K "divided_bare" "divided_bare" (defArgs (top 10)) (defBody (top 10)) (defScope (top 10)) [] [] f fd) (Tx : Txt K mg) (D_scaled_by : DefD (ct K) P w K mg base 4 "scaled_by" false 2 s_scaled_by) (D_trimmed : DefD (ct K) P w K mg base 4 "trimmed" false 1 s_trimmed) : FnOk P w K mg base CX0 5 f fd ["poly", "other"] (SpD (ct K) false 2 s_divided_bare) := by
  have sc : FnScope ["poly", "other", "power", "quotient", "rest", "head", "shift", "shared", "up", "down", "ahead", "number", "part"] ["poly", "other"] (defScope (top 10)) := ⟨rfl, rfl, rfl, by decide +kernel, rfl, by decide +kernel, by decide +kernel⟩
  refine fn_D F sc rfl fun cdv A' outer s0 H E W vs ds R Q hr n hm hq => ?_
  obtain ⟨vpoly, vother, rfl⟩ : ∃ vpoly vother, ds = [vpoly, vother] := len2 (len_s_divided_bare hm)
  have n := n.as (ρ' := [some vpoly, some vother, none, none, none, none, none, none, none, none, none, none, none]) rfl
  unfold s_divided_bare at hm
  have hq := fun y u H' a b c d => hq y u H' a b c d fun h => nomatch h
  refine w_unp n (.cons (i := 2) rfl (by first | exact Or.inl rfl | exact Or.inr rfl) (by first | exact .inl rfl | exact .inr rfl) rfl (.cons (i := 3) rfl (by first | exact Or.inl rfl | exact Or.inr rfl) (by first | exact .inl rfl | exact .inr rfl) rfl (.cons (i := 4) rfl (by first | exact Or.inl rfl | exact Or.inr rfl) (by first | exact .inl rfl | exact .inr rfl) rfl (.cons (i := 5) rfl (by first | exact Or.inl rfl | exact Or.inr rfl) (by first | exact .inl rfl | exact .inr rfl) rfl .nil)))) (dw_tup (l_cons d_int (l_cons (dw_lst l_nil) (l_cons (dw_Ty b_list Tx.list_ hv_list (l_cons (sv 0 n.see) l_nil)) (l_cons (dw_ix (sv 1 n.see) (dw_un (op_negG op1_never) d_int)) l_nil))))) hm sc.nd rfl (fun ds _ _ hl n1 hm => ?_)
  obtain ⟨vpower, vquotient, vrest, vhead, rfl⟩ := len4 hl
  have hm := l4_ap hm
  have n := n1.as (ρ' := [some vpoly, some vother, some vpower, some vquotient, some vrest, some vhead, none, none, none, none, none, none, none]) rfl
  refine w_for1 6 (fun vs : D × D × D => [some vpoly, some vother, some vs.1, some vs.2.1, some vs.2.2, some vhead, none, none, none, none, none, none, none]) ((vpower, vquotient, vrest) : D × D × D) n (iw_range3 (l_cons (dw_bin (op_subG op_never) (dw_B b_len Tx.len hv_len (l_cons (sv 0 n.see) l_nil)) (dw_B b_len Tx.len hv_len (l_cons (sv 1 n.see) l_nil))) (l_cons (dw_un (op_negG op1_never) d_int) (l_cons (dw_un (op_negG op1_never) d_int) l_nil))) Tx.range) hm sc.nd PassesOwn.never rfl (fun _ n => n.cut (.same (.same (.same (.same (.same (.same (.none (.none (.none (.none (.none (.none (.none .nil)))))))))))))) (fun _ vnO vshift vs nx bk Nx Bk _ _ n h1 h2 hm => ?_) (fun vs _ _ n hm => ?_)
  · have n := n.as (ρ' := [some vpoly, some vother, some vs.1, some vs.2.1, some vs.2.2, some vhead, some vshift, none, none, none, none, none, none]) rfl
    refine w_set 7 n (dw_Fn b_gcd Tx.gcd (l_cons (sv 5 n.see) (l_cons (dw_ix (sv 4 n.see) (dw_un (op_negG op1_never) d_int)) l_nil))) hm sc.nd (fun vshared _ _ n1 hm => ?_)
    have n := n1.as (ρ' := [some vpoly, some vother, some vs.1, some vs.2.1, some vs.2.2, some vhead, some vshift, some vshared, none, none, none, none, none]) rfl
    refine w_unp n (.cons (i := 8) rfl (by first | exact Or.inl rfl | exact Or.inr rfl) (by first | exact .inl rfl | exact .inr rfl) rfl (.cons (i := 9) rfl (by first | exact Or.inl rfl | exact Or.inr rfl) (by first | exact .inl rfl | exact .inr rfl) rfl .nil)) (dw_tup (l_cons (dw_bin op_fdivG (sv 5 n.see) (sv 7 n.see)) (l_cons (dw_bin op_fdivG (dw_ix (sv 4 n.see) (dw_un (op_negG op1_never) d_int)) (sv 7 n.see)) l_nil))) hm sc.nd rfl (fun ds _ _ hl n1 hm => ?_)
    obtain ⟨vup, vdown, rfl⟩ := len2 hl
    have hm := l2_ap hm
    have n := n1.as (ρ' := [some vpoly, some vother, some vs.1, some vs.2.1, some vs.2.2, some vhead, some vshift, some vshared, some vup, some vdown, none, none, none]) rfl
    refine w_setC 10 n (dc_1 11 (iw_val (dw_slice (sv 4 n.see) p_none (p_some (sv 6 n.see)))) n.see (fun _ _ _ _ _ _ _ _ vnumber S2 => have S2 := S2.as (ρ' := [some vpoly, some vother, some vs.1, some vs.2.1, some vs.2.2, some vhead, some vshift, some vshared, some vup, some vdown, none, some vnumber, none]) rfl; (dw_bin (op_mulG op_never) (sv 8 S2) (sv 11 S2))) rfl sc.nd (blkOk_by (show blkC ["poly", "other", "power", "quotient", "rest", "head", "shift", "shared", "up", "down", "ahead", "number", "part"] (defScope (top 10)) _ _ = true by decide +kernel)) (fun _ _ _ _ _ => pg_name (i := 11) sc.nd rfl (by first | exact Or.inl rfl | exact Or.inr rfl))) hm (fun vahead _ _ n1 hm => ?_)
    have n := n1.as (ρ' := [some vpoly, some vother, some vs.1, some vs.2.1, some vs.2.2, some vhead, some vshift, some vshared, some vup, some vdown, some vahead, none, none]) rfl
    refine w_set 4 n (dw_bin (op_addG op_never) (sv 10 n.see) (dc_2 11 12 (iw_zip (l_cons (dw_slice (sv 4 n.see) (p_some (sv 6 n.see)) (p_some (dw_un (op_negG op1_never) d_int))) (l_cons (sv 1 n.see) l_nil)) Tx.zip) n.see (by decide) (fun _ _ _ _ _ _ _ _ vnumber2 vpart S2 => have S2 := S2.as (ρ' := [some vpoly, some vother, some vs.1, some vs.2.1, some vs.2.2, some vhead, some vshift, some vshared, some vup, some vdown, some vahead, some vnumber2, some vpart]) rfl; (dw_bin (op_subG op_never) (dw_bin (op_mulG op_never) (sv 8 S2) (sv 11 S2)) (dw_bin (op_mulG op_never) (sv 9 S2) (sv 12 S2)))) rfl sc.nd (blkOk_by (show blkC ["poly", "other", "power", "quotient", "rest", "head", "shift", "shared", "up", "down", "ahead", "number", "part"] (defScope (top 10)) _ _ = true by decide +kernel)) (fun _ _ _ _ _ => pg_tup rfl (pgs_cons (pg_name (i := 11) sc.nd rfl (Or.inl rfl)) (pgs_cons (pg_name (i := 12) sc.nd rfl (Or.inl rfl)) pgs_nil rfl) rfl) rfl rfl)).dw) hm sc.nd (fun vrest2 _ _ n1 hm => ?_)
    have n := n1.as (ρ' := [some vpoly, some vother, some vs.1, some vs.2.1, some vrest2, some vhead, some vshift, some vshared, some vup, some vdown, some vahead, none, none]) rfl
    refine w_set 3 n (dw_bin (op_addG op_never) (dw_lst (l_cons (sv 9 n.see) l_nil)) (dw_call D_scaled_by (hr.mono (by decide)) (l_cons (sv 3 n.see) (l_cons (sv 8 n.see) l_nil)))) hm sc.nd (fun vquotient2 _ _ n1 hm => ?_)
    have n := n1.as (ρ' := [some vpoly, some vother, some vs.1, some vquotient2, some vrest2, some vhead, some vshift, some vshared, some vup, some vdown, some vahead, none, none]) rfl
    refine w_set 2 n (dw_bin (op_mulG op_never) (sv 2 n.see) (sv 8 n.see)) hm sc.nd (fun vpower2 _ _ n1 hm => ?_)
    have n := n1.as (ρ' := [some vpoly, some vother, some vpower2, some vquotient2, some vrest2, some vhead, some vshift, some vshared, some vup, some vdown, some vahead, none, none]) rfl
    exact w_nil (h1 (vpower2, vquotient2, vrest2) _ _ (n.cut (.same (.same (.same (.same (.same (.same (.none (.none (.none (.none (.none (.none (.none .nil)))))))))))))) hm)
  · have n := n.as (ρ' := [some vpoly, some vother, some vs.1, some vs.2.1, some vs.2.2, some vhead, none, none, none, none, none, none, none]) rfl
    exact w_retW n (dw_tup (l_cons (sv 2 n.see) (l_cons (dw_call D_trimmed (hr.mono (by decide)) (l_cons (sv 3 n.see) l_nil)) (l_cons (dw_call D_trimmed (hr.mono (by decide)) (l_cons (sv 4 n.see) l_nil)) l_nil)))) hm hq rfl
theorem ok_rest_shape (F : FunD K "rest_shape" "rest_shape" (defArgs (top 37)) (defBody (top 37)) (defScope (top 37)) [] [] f fd) (Tx : Txt K mg) (D_bare : DefD (ct K) P w K mg base 6 "bare" false 1 s_bare) (D_divided_bare : DefD (ct K) P w K mg base 5 "divided_bare" false 2 s_divided_bare) (D_noughts_behind : DefD (ct K) P w K mg base 5 "noughts_behind" false 1 s_noughts_behind) (D_trimmed : DefD (ct K) P w K mg base 4 "trimmed" false 1 s_trimmed) : FnOk P w K mg base CX0 7 f fd ["shape", "other"] (SpD (ct K) false 2 s_rest_shape) := by
  have sc : FnScope ["shape", "other", "noughts", "_", "quotient", "rest"] ["shape", "other"] (defScope (top 37)) := ⟨rfl, rfl, rfl, by decide +kernel, rfl, by decide +kernel, by decide +kernel⟩
  refine fn_D F sc rfl fun cdv A' outer s0 H E W vs ds R Q hr n hm hq => ?_
  obtain ⟨vshape, vother, rfl⟩ : ∃ vshape vother, ds = [vshape, vother] := len2 (len_s_rest_shape hm)
  have n := n.as (ρ' := [some vshape, some vother, none, none, none, none]) rfl
  unfold s_rest_shape at hm
  have hq := fun y u H' a b c d => hq y u H' a b c d fun h => nomatch h
  refine w_set 2 n (dw_bin (op_subG op_never) (dw_call D_noughts_behind (hr.mono (by decide)) (l_cons (sv 1 n.see) l_nil)) (dw_call D_noughts_behind (hr.mono (by decide)) (l_cons (sv 0 n.see) l_nil))) hm sc.nd (fun vnoughts _ _ n1 hm => ?_)
  have n := n1.as (ρ' := [some vshape, some vother, some vnoughts, none, none, none]) rfl
  refine w_unp n (.cons (i := 3) rfl (by first | exact Or.inl rfl | exact Or.inr rfl) (by first | exact .inl rfl | exact .inr rfl) rfl (.cons (i := 4) rfl (by first | exact Or.inl rfl | exact Or.inr rfl) (by first | exact .inl rfl | exact .inr rfl) rfl (.cons (i := 5) rfl (by first | exact Or.inl rfl | exact Or.inr rfl) (by first | exact .inl rfl | exact .inr rfl) rfl .nil))) (dw_call D_divided_bare (hr.mono (by decide)) (l_cons (dw_call D_trimmed (hr.mono (by decide)) (l_cons (sv 1 n.see) l_nil)) (l_cons (dw_call D_trimmed (hr.mono (by decide)) (l_cons (sv 0 n.see) l_nil)) l_nil))) hm sc.nd rfl (fun ds _ _ hl n1 hm => ?_)
  obtain ⟨v_, vquotient, vrest, rfl⟩ := len3 hl
  have hm := l3_ap hm
  have n := n1.as (ρ' := [some vshape, some vother, some vnoughts, some v_, some vquotient, some vrest]) rfl
  refine w_if n (tw_w (ww_or (tw_cmp op_ltG (sv 2 n.see) d_int) (ww_or1 (tw_tru (sv 5 n.see))))) hm (fun _ n hm => ?_) (fun _ n hm => ?_)
  · exact w_retW n d_non hm hq rfl
  · refine w_nil ?_
    show Wss _ _ _ _ _
    exact w_retW n (dw_bin (op_addG op_never) (dw_call D_bare (hr.mono (by decide)) (l_cons (sv 4 n.see) l_nil)) (dw_bin (op_mulG op_never) (dw_lst (l_cons d_int l_nil)) (sv 2 n.see))) hm hq rfl
theorem ok_is_shape_divider (F : FunD K "is_shape_divider" "is_shape_divider" (defArgs (top 38)) (defBody (top 38)) (defScope (top 38)) [] [] f fd) (Tx : Txt K mg) (D_rest_shape : DefD (ct K) P w K mg base 7 "rest_shape" false 2 s_rest_shape) : FnOk P w K mg base CX0 8 f fd ["shape", "other"] (SpD (ct K) false 2 s_is_shape_divider) := by
  have sc : FnScope ["shape", "other"] ["shape", "other"] (defScope (top 38)) := ⟨rfl, rfl, rfl, by decide +kernel, rfl, by decide +kernel, by decide +kernel⟩
  refine fn_D F sc rfl fun cdv A' outer s0 H E W vs ds R Q hr n hm hq => ?_
  obtain ⟨vshape, vother, rfl⟩ : ∃ vshape vother, ds = [vshape, vother] := len2 (len_s_is_shape_divider hm)
  have n := n.as (ρ' := [some vshape, some vother]) rfl
  unfold s_is_shape_divider at hm
  have hq := fun y u H' a b c d => hq y u H' a b c d fun h => nomatch h
  exact w_retW n (dw_cmp op_notNoneG (dw_call D_rest_shape (hr.mono (by decide)) (l_cons (sv 0 n.see) (l_cons (sv 1 n.see) l_nil))) d_non) hm hq rfl
theorem ok_divides (F : FunD K "divides" "divides" (defArgs (top 44)) (defBody (top 44)) (defScope (top 44)) [] [] f fd) (Tx : Txt K mg) (D_is_shape_divider : DefD (ct K) P w K mg base 8 "is_shape_divider" false 2 s_is_shape_divider) (D_shape_of : DefD (ct K) P w K mg base 8 "shape_of" false 1 s_shape_of) : FnOk P w K mg base CX0 9 f fd ["form", "other"] (SpD (ct K) false 2 s_divides) := by
  have sc : FnScope ["form", "other", "first", "second"] ["form", "other"] (defScope (top 44)) := ⟨rfl, rfl, rfl, by decide +kernel, rfl, by decide +kernel, by decide +kernel⟩
  refine fn_D F sc rfl fun cdv A' outer s0 H E W vs ds R Q hr n hm hq => ?_
  obtain ⟨vform, vother, rfl⟩ : ∃ vform vother, ds = [vform, vother] := len2 (len_s_divides hm)
  have n := n.as (ρ' := [some vform, some vother, none, none]) rfl
  unfold s_divides at hm
  have hq := fun y u H' a b c d => hq y u H' a b c d fun h => nomatch h
  refine w_par 2 3 n (l_cons (dw_call D_shape_of (hr.mono (by decide)) (l_cons (sv 0 n.see) l_nil)) (l_cons (dw_call D_shape_of (hr.mono (by decide)) (l_cons (sv 1 n.see) l_nil)) l_nil)) hm rfl sc.nd (fun vfirst vsecond _ _ n1 hm => ?_) l2_len
  have hm := l2_ap hm
  have n := n1.as (ρ' := [some vform, some vother, some vfirst, some vsecond]) rfl
  exact w_retW n (dw_call D_is_shape_divider (hr.mono (by decide)) (l_cons (sv 2 n.see) (l_cons (sv 3 n.see) l_nil))) hm hq rfl
theorem ok_rest_form (F : FunD K "rest_form" "rest_form" (defArgs (top 45)) (defBody (top 45)) (defScope (top 45)) [] [] f fd) (Tx : Txt K mg) (D_rest_shape : DefD (ct K) P w K mg base 7 "rest_shape" false 2 s_rest_shape) (D_shape_of : DefD (ct K) P w K mg base 8 "shape_of" false 1 s_shape_of) (D_told_shape : DefD (ct K) P w K mg base 7 "told_shape" true 1 s_told_shape) : FnOk P w K mg base CX0 9 f fd ["form", "other"] (SpD (ct K) true 2 s_rest_form) := by
  have sc : FnScope ["form", "other", "first", "second", "rest"] ["form", "other"] (defScope (top 45)) := ⟨rfl, rfl, rfl, by decide +kernel, rfl, by decide +kernel, by decide +kernel⟩
  refine fn_D F sc rfl fun cdv A' outer s0 H E W vs ds R Q hr n hm hq => ?_
  obtain ⟨vform, vother, rfl⟩ : ∃ vform vother, ds = [vform, vother] := len2 (len_s_rest_form hm)
  have n := n.as (ρ' := [some vform, some vother, none, none, none]) rfl
  unfold s_rest_form at hm
  refine w_par 2 3 n (l_cons (dw_call D_shape_of (hr.mono (by decide)) (l_cons (sv 0 n.see) l_nil)) (l_cons (dw_call D_shape_of (hr.mono (by decide)) (l_cons (sv 1 n.see) l_nil)) l_nil)) hm rfl sc.nd (fun vfirst vsecond _ _ n1 hm => ?_) l2_len
  have hm := l2_ap hm
  have n := n1.as (ρ' := [some vform, some vother, some vfirst, some vsecond, none]) rfl
  refine w_set 4 n (dw_call D_rest_shape (hr.mono (by decide)) (l_cons (sv 2 n.see) (l_cons (sv 3 n.see) l_nil))) hm sc.nd (fun vrest _ _ n1 hm => ?_)
  have n := n1.as (ρ' := [some vform, some vother, some vfirst, some vsecond, some vrest]) rfl
  refine w_if n (tw_cmp op_isNoneG (sv 4 n.see) d_non) hm (fun _ n hm => ?_) (fun _ n hm => ?_)
  · exact hm.elim
  · refine w_nil ?_
    show Wss _ _ _ _ _
    exact w_retF n (fd_call D_told_shape (hr.mono (by decide)) (l_cons (sv 4 n.see) l_nil)) hm hq rfl
theorem okX_rest_form (F : Fun K "rest_form" "rest_form" (top 45) f fd) (Tx : Txt K mg) (D_rest_shape : DefD (ct K) P w K mg base 7 "rest_shape" false 2 s_rest_shape) (D_shape_of : DefD (ct K) P w K mg base 8 "shape_of" false 1 s_shape_of) (D_told_shape : DefD (ct K) P w K mg base 7 "told_shape" true 1 s_told_shape) (XC_NotDivided : ExcC K mg "NotDivided" (He.ga K "NotDivided") [.type "RuntimeError", .type "Exception", .type "BaseException", .type "object"] "RuntimeError.__new__") : FnOk P w K mg base (L2.CX P w) 9 f fd ["form", "other"] (SpDX (ct K) (He.ga K "NotDivided") 2 sx_rest_form) := by
  have sc : FnScope ["form", "other", "first", "second", "rest"] ["form", "other"] (defScope (top 45)) := ⟨rfl, rfl, rfl, by decide +kernel, rfl, by decide +kernel, by decide +kernel⟩
  refine fn_DX F sc rfl fun cdv A' outer s0 H E W vs ds R Q hr n hm hl hq hqx => ?_
  obtain ⟨vform, vother, rfl⟩ := len2 hl
  have n := n.as (ρ' := [some vform, some vother, none, none, none]) rfl
  unfold sx_rest_form at hm
  refine w_par 2 3 n (l_cons (dw_call D_shape_of (hr.mono (by decide)) (l_cons (sv 0 n.see) l_nil)) (l_cons (dw_call D_shape_of (hr.mono (by decide)) (l_cons (sv 1 n.see) l_nil)) l_nil)) hm rfl sc.nd (fun vfirst vsecond _ _ n1 hm => ?_) l2_len
  have hm := l2_ap hm
  have n := n1.as (ρ' := [some vform, some vother, some vfirst, some vsecond, none]) rfl
  refine w_set 4 n (dw_call D_rest_shape (hr.mono (by decide)) (l_cons (sv 2 n.see) (l_cons (sv 3 n.see) l_nil))) hm sc.nd (fun vrest _ _ n1 hm => ?_)
  have n := n1.as (ρ' := [some vform, some vother, some vfirst, some vsecond, some vrest]) rfl
  refine w_if n (tw_cmp op_isNoneG (sv 4 n.see) d_non) hm (fun _ n hm => ?_) (fun _ n hm => ?_)
  · exact w_raise0 PySem.F.excBase_RuntimeError XC_NotDivided (takesD rfl rfl rfl rfl) (hqx _ hm n.up n.inv)
  · refine w_nil ?_
    show Wss _ _ _ _ _
    exact w_retW n (dw_call D_told_shape (hr.mono (by decide)) (l_cons (sv 4 n.see) l_nil)) hm (fun y u H' a b c d => hq y u H' a b c d) rfl
theorem ok_Ratio_eq (F : FunD K "__eq__" "Ratio.__eq__" (defArgs (cm 22 16)) (defBody (cm 22 16)) (defScope (cm 22 16)) [] [] f fd) (Tx : Txt K mg)  : FnOk P w K mg base CX0 4 f fd ["self", "other"] (SpD (ct K) false 2 s_Ratio_eq) := by
  have sc : FnScope ["self", "other"] ["self", "other"] (defScope (cm 22 16)) := ⟨rfl, rfl, rfl, by decide +kernel, rfl, by decide +kernel, by decide +kernel⟩
  refine fn_D F sc rfl fun cdv A' outer s0 H E W vs ds R Q hr n hm hq => ?_
  obtain ⟨vself, vother, rfl⟩ : ∃ vself vother, ds = [vself, vother] := len2 (len_s_Ratio_eq hm)
  have n := n.as (ρ' := [some vself, some vother]) rfl
  unfold s_Ratio_eq at hm
  have hq := fun y u H' a b c d => hq y u H' a b c d fun h => nomatch h
  exact w_retW n (dw_and (dw_isi Tx.C (sv 1 n.see) (ty_c 0 (by show 0 < 1; decide) Tx.mg_Ratio) Tx.isinstance) (dw_and (dw_cmp (op_eqT Tx.E0 1 (hr.mono (by decide))) (dw_fld 0 0 (by show 0 < 1; decide) Tx.C rfl (sv 0 n.see)) (dw_fld 0 0 (by show 0 < 1; decide) Tx.C rfl (sv 1 n.see))) (dw_one (dw_cmp (op_eqT Tx.E0 1 (hr.mono (by decide))) (dw_fld 0 1 (by show 0 < 1; decide) Tx.C rfl (sv 0 n.see)) (dw_fld 0 1 (by show 0 < 1; decide) Tx.C rfl (sv 1 n.see)))))) hm hq rfl
theorem ok_Ratio_repr (F : FunD K "__repr__" "Ratio.__repr__" (defArgs (cm 22 18)) (defBody (cm 22 18)) (defScope (cm 22 18)) [] [] f fd) (Tx : Txt K mg)  : FnOk P w K mg base CX0 1 f fd ["self"] (SpD (ct K) false 1 s_Ratio_repr) := by
  have sc : FnScope ["self"] ["self"] (defScope (cm 22 18)) := ⟨rfl, rfl, rfl, by decide +kernel, rfl, by decide +kernel, by decide +kernel⟩
  refine fn_D F sc rfl fun cdv A' outer s0 H E W vs ds R Q hr n hm hq => ?_
  obtain ⟨vself, rfl⟩ : ∃ vself, ds = [vself] := len1 (len_s_Ratio_repr hm)
  have n := n.as (ρ' := [some vself]) rfl
  unfold s_Ratio_repr at hm
  have hq := fun y u H' a b c d => hq y u H' a b c d fun h => nomatch h
  exact w_retW n (dw_joined (j_cons d_str (j_cons (dw_fmt (dw_fld 0 0 (by show 0 < 1; decide) Tx.C rfl (sv 0 n.see))) (j_cons d_str (j_cons (dw_fmt (dw_fld 0 1 (by show 0 < 1; decide) Tx.C rfl (sv 0 n.see))) (j_cons d_str j_nil)))))) hm hq rfl
theorem ok_are_like (F : FunD K "are_like" "are_like" (defArgs (top 42)) (defBody (top 42)) (defScope (top 42)) [] [] f fd) (Tx : Txt K mg) (D_shape_of : DefD (ct K) P w K mg base 8 "shape_of" false 1 s_shape_of) : FnOk P w K mg base CX0 9 f fd ["form", "other"] (SpD (ct K) false 2 s_are_like) := by
  have sc : FnScope ["form", "other"] ["form", "other"] (defScope (top 42)) := ⟨rfl, rfl, rfl, by decide +kernel, rfl, by decide +kernel, by decide +kernel⟩
  refine fn_D F sc rfl fun cdv A' outer s0 H E W vs ds R Q hr n hm hq => ?_
  obtain ⟨vform, vother, rfl⟩ : ∃ vform vother, ds = [vform, vother] := len2 (len_s_are_like hm)
  have n := n.as (ρ' := [some vform, some vother]) rfl
  unfold s_are_like at hm
  have hq := fun y u H' a b c d => hq y u H' a b c d fun h => nomatch h
  exact w_retW n (dw_cmp (op_eqT Tx.E0 1 (hr.mono (by decide))) (dw_call D_shape_of (hr.mono (by decide)) (l_cons (sv 0 n.see) l_nil)) (dw_call D_shape_of (hr.mono (by decide)) (l_cons (sv 1 n.see) l_nil))) hm hq rfl
end
end K42
set_option Elab.async false
set_option linter.all false
set_option maxRecDepth 100000
set_option maxHeartbeats 4000000
set_option exponentiation.threshold 20000
namespace K42
open PySem L2 Inn Uv Sl
section
variable {P : Program} {w : World} {K : PySem.W.Frag} {mg : Str → Option Value} {base : Heap} {f : Addr} {fd : FuncData}
theorem ok_law_trim (F : FunD K "_law_trim" "_law_trim" (defArgs (top 54)) (defBody (top 54)) (defScope (top 54)) [] [] f fd) (Tx : Txt K mg)  : FnOk P w K mg base CX0 4 f fd ["_law_poly"] (SpD (ct K) false 1 s_law_trim_k41) := by
  have sc : FnScope ["_law_poly", "_law_found"] ["_law_poly"] (defScope (top 54)) := ⟨rfl, rfl, rfl, by decide +kernel, rfl, by decide +kernel, by decide +kernel⟩
  refine fn_D F sc rfl fun cdv A' outer s0 H E W vs ds R Q hr n hm hq => ?_
  obtain ⟨vpoly, rfl⟩ : ∃ vpoly, ds = [vpoly] := len1 (len_s_law_trim_k41 hm)
  have n := n.as (ρ' := [some vpoly, none]) rfl
  unfold s_law_trim_k41 at hm
  have hq := fun y u H' a b c d => hq y u H' a b c d fun h => nomatch h
  refine w_own 1 n (fw_list (sv 0 n.see) Tx.list_ hv_list) hm sc.nd (fun vfound vpO _ _ _ o hm => ?_)
  refine w_whileO (fun vs : List D => [some vpoly, none]) (fun vs => vs) (vfound : List D) o hm PassesOwn.never (o.cut (.same (.none .nil))) (fun vs _ _ _ o => ?_) (fun vs nx bk Nx Bk _ _ _ o h1 h2 hm => ?_) (fun vs _ _ _ o hm => ?_)
  · have o := o.as (ρ' := [some vpoly, none]) rfl
    exact (tw_thaw o (tw_w (ww_and (tw_cmp (op_neT Tx.E0 1 (hr.mono (by decide))) (sv 1 (o.end_).see) (dw_lst l_nil)) (ww_and1 (tw_cmp (op_eqT Tx.E0 1 (hr.mono (by decide))) (dw_ix (dw_ix (sv 1 (o.end_).see) (dw_un (op_negG op1_never) d_int)) d_int) d_int)))))
  · have o := o.as (ρ' := [some vpoly, none]) rfl
    refine w_popO o hm (fun vfound2 _ _ o hm => ?_)
    exact w_nil (h1 vfound2 _ _ _ (o.cut (.same (.none .nil))) hm)
  · have o := o.as (ρ' := [some vpoly, none]) rfl
    have n := (o.end_).as (ρ' := [some vpoly, some (D.lst vs)]) rfl
    exact w_retW n (sv 1 n.see) hm hq rfl
theorem ok_law_low (F : FunD K "_law_low" "_law_low" (defArgs (top 50)) (defBody (top 50)) (defScope (top 50)) [] [] f fd) (Tx : Txt K mg)  : FnOk P w K mg base CX0 1 f fd ["_law_top", "_law_bottom"] (SpD (ct K) false 2 s_law_low) := by
  have sc : FnScope ["_law_top", "_law_bottom", "_law_one", "_law_other"] ["_law_top", "_law_bottom"] (defScope (top 50)) := ⟨rfl, rfl, rfl, by decide +kernel, rfl, by decide +kernel, by decide +kernel⟩
  refine fn_D F sc rfl fun cdv A' outer s0 H E W vs ds R Q hr n hm hq => ?_
  obtain ⟨vtop, vbottom, rfl⟩ : ∃ vtop vbottom, ds = [vtop, vbottom] := len2 (len_s_law_low hm)
  have n := n.as (ρ' := [some vtop, some vbottom, none, none]) rfl
  unfold s_law_low at hm
  have hq := fun y u H' a b c d => hq y u H' a b c d fun h => nomatch h
  refine w_par 2 3 n (l_cons (dw_B b_abs Tx.abs hv_abs (l_cons (sv 0 n.see) l_nil)) (l_cons (dw_B b_abs Tx.abs hv_abs (l_cons (sv 1 n.see) l_nil)) l_nil)) hm rfl sc.nd (fun vone vother _ _ n1 hm => ?_) l2_len
  have hm := l2_ap hm
  have n := n1.as (ρ' := [some vtop, some vbottom, some vone, some vother]) rfl
  refine w_while (fun vs : D × D => [some vtop, some vbottom, some vs.1, some vs.2]) ((vone, vother) : D × D) n hm PassesOwn.never (n.cut (.same (.same (.same (.same .nil))))) (fun vs _ _ n => ?_) (fun vs nx bk Nx Bk _ _ n h1 h2 hm => ?_) (fun vs _ _ n hm => ?_)
  · have n := n.as (ρ' := [some vtop, some vbottom, some vs.1, some vs.2]) rfl
    exact (tw_cmp op_gtG (sv 3 n.see) d_int)
  · have n := n.as (ρ' := [some vtop, some vbottom, some vs.1, some vs.2]) rfl
    refine w_par 2 3 n (l_cons (sv 3 n.see) (l_cons (dw_bin op_modG (dw_Ty b_int Tx.int_ hv_int (l_cons (sv 2 n.see) l_nil)) (sv 3 n.see)) l_nil)) hm rfl sc.nd (fun vone2 vother2 _ _ n1 hm => ?_) l2_len
    have hm := l2_ap hm
    have n := n1.as (ρ' := [some vtop, some vbottom, some vone2, some vother2]) rfl
    exact w_nil (h1 (vone2, vother2) _ _ (n.cut (.same (.same (.same (.same .nil))))) hm)
  · have n := n.as (ρ' := [some vtop, some vbottom, some vs.1, some vs.2]) rfl
    refine w_set 2 n (dw_if (tw_cmp op_gtG (sv 1 n.see) d_int) (sv 2 n.see) (dw_bin (op_subG op_never) d_int (sv 2 n.see))) hm sc.nd (fun vone3 _ _ n1 hm => ?_)
    have n := n1.as (ρ' := [some vtop, some vbottom, some vone3, some vs.2]) rfl
    exact w_retW n (dw_tup (l_cons (dw_bin op_fdivG (sv 0 n.see) (sv 2 n.see)) (l_cons (dw_bin op_fdivG (sv 1 n.see) (sv 2 n.see)) l_nil))) hm hq rfl
theorem ok_law_over (F : FunD K "_law_over" "_law_over" (defArgs (top 53)) (defBody (top 53)) (defScope (top 53)) [] [] f fd) (Tx : Txt K mg) (D_law_low : DefD (ct K) P w K mg base 1 "_law_low" false 2 s_law_low) : FnOk P w K mg base CX0 2 f fd ["_law_one", "_law_other"] (SpD (ct K) false 2 s_law_over) := by
  have sc : FnScope ["_law_one", "_law_other"] ["_law_one", "_law_other"] (defScope (top 53)) := ⟨rfl, rfl, rfl, by decide +kernel, rfl, by decide +kernel, by decide +kernel⟩
  refine fn_D F sc rfl fun cdv A' outer s0 H E W vs ds R Q hr n hm hq => ?_
  obtain ⟨vone, vother, rfl⟩ : ∃ vone vother, ds = [vone, vother] := len2 (len_s_law_over hm)
  have n := n.as (ρ' := [some vone, some vother]) rfl
  unfold s_law_over at hm
  have hq := fun y u H' a b c d => hq y u H' a b c d fun h => nomatch h
  exact w_retW n (dw_call D_law_low (hr.mono (by decide)) (l_cons (dw_bin (op_mulG op_never) (dw_ix (sv 0 n.see) d_int) (dw_ix (sv 1 n.see) d_int)) (l_cons (dw_bin (op_mulG op_never) (dw_ix (sv 0 n.see) d_int) (dw_ix (sv 1 n.see) d_int)) l_nil))) hm hq rfl
theorem ok_law_headed (F : FunD K "_law_headed" "_law_headed" (defArgs (top 65)) (defBody (top 65)) (defScope (top 65)) [] [] f fd) (Tx : Txt K mg) (D_law_over : DefD (ct K) P w K mg base 2 "_law_over" false 2 s_law_over) (D_law_trim : DefD (ct K) P w K mg base 4 "_law_trim" false 1 s_law_trim_k41) : FnOk P w K mg base CX0 5 f fd ["_law_form_here"] (SpD (ct K) false 1 s_law_headed) := by
  have sc : FnScope ["_law_form_here", "_law_last", "_law_entry_here"] ["_law_form_here"] (defScope (top 65)) := ⟨rfl, rfl, rfl, by decide +kernel, rfl, by decide +kernel, by decide +kernel⟩
  refine fn_D F sc rfl fun cdv A' outer s0 H E W vs ds R Q hr n hm hq => ?_
  obtain ⟨vform_here, rfl⟩ : ∃ vform_here, ds = [vform_here] := len1 (len_s_law_headed hm)
  have n := n.as (ρ' := [some vform_here, none, none]) rfl
  unfold s_law_headed at hm
  have hq := fun y u H' a b c d => hq y u H' a b c d fun h => nomatch h
  refine w_set 1 n (dw_ix (dw_call D_law_trim (hr.mono (by decide)) (l_cons (sv 0 n.see) l_nil)) (dw_un (op_negG op1_never) d_int)) hm sc.nd (fun vlast _ _ n1 hm => ?_)
  have n := n1.as (ρ' := [some vform_here, some vlast, none]) rfl
  exact w_retW n (dc_1 2 (iw_val (sv 0 n.see)) n.see (fun _ _ _ _ _ _ _ _ ventry_here S2 => have S2 := S2.as (ρ' := [some vform_here, some vlast, some ventry_here]) rfl; (dw_call D_law_over (hr.mono (by decide)) (l_cons (sv 2 S2) (l_cons (sv 1 S2) l_nil)))) rfl sc.nd (blkOk_by (show blkC ["_law_form_here", "_law_last", "_law_entry_here"] (defScope (top 65)) _ _ = true by decide +kernel)) (fun _ _ _ _ _ => pg_name (i := 2) sc.nd rfl (by first | exact Or.inl rfl | exact Or.inr rfl))).dw hm hq rfl
theorem ok_law_plain (F : FunD K "_law_plain" "_law_plain" (defArgs (top 63)) (defBody (top 63)) (defScope (top 63)) [] [] f fd) (Tx : Txt K mg) (D_law_trim : DefD (ct K) P w K mg base 4 "_law_trim" false 1 s_law_trim_k41) : FnOk P w K mg base CX0 5 f fd ["_law_form_here"] (SpD (ct K) false 1 s_law_plain) := by
  have sc : FnScope ["_law_form_here", "_law_poly"] ["_law_form_here"] (defScope (top 63)) := ⟨rfl, rfl, rfl, by decide +kernel, rfl, by decide +kernel, by decide +kernel⟩
  refine fn_D F sc rfl fun cdv A' outer s0 H E W vs ds R Q hr n hm hq => ?_
  obtain ⟨vform_here, rfl⟩ : ∃ vform_here, ds = [vform_here] := len1 (len_s_law_plain hm)
  have n := n.as (ρ' := [some vform_here, none]) rfl
  unfold s_law_plain at hm
  have hq := fun y u H' a b c d => hq y u H' a b c d fun h => nomatch h
  refine w_set 1 n (dw_call D_law_trim (hr.mono (by decide)) (l_cons (sv 0 n.see) l_nil)) hm sc.nd (fun vpoly _ _ n1 hm => ?_)
  have n := n1.as (ρ' := [some vform_here, some vpoly]) rfl
  exact w_retW n (dw_tup (l_cons (sv 1 n.see) (l_cons (dw_bin (op_subG op_never) (dw_B b_len Tx.len hv_len (l_cons (sv 0 n.see) l_nil)) (dw_B b_len Tx.len hv_len (l_cons (sv 1 n.see) l_nil))) l_nil))) hm hq rfl
theorem ok_law_filled (F : FunD K "_law_filled" "_law_filled" (defArgs (top 64)) (defBody (top 64)) (defScope (top 64)) [] [] f fd) (Tx : Txt K mg)  : FnOk P w K mg base CX0 1 f fd ["_law_poly", "_law_degree"] (SpD (ct K) false 2 s_law_filled) := by
  have sc : FnScope ["_law_poly", "_law_degree"] ["_law_poly", "_law_degree"] (defScope (top 64)) := ⟨rfl, rfl, rfl, by decide +kernel, rfl, by decide +kernel, by decide +kernel⟩
  refine fn_D F sc rfl fun cdv A' outer s0 H E W vs ds R Q hr n hm hq => ?_
  obtain ⟨vpoly, vdegree, rfl⟩ : ∃ vpoly vdegree, ds = [vpoly, vdegree] := len2 (len_s_law_filled hm)
  have n := n.as (ρ' := [some vpoly, some vdegree]) rfl
  unfold s_law_filled at hm
  have hq := fun y u H' a b c d => hq y u H' a b c d fun h => nomatch h
  exact w_retW n (dw_bin (op_addG op_never) (sv 0 n.see) (dw_bin (op_mulG op_never) (dw_lst (l_cons (dw_tup (l_cons d_int (l_cons d_int l_nil))) l_nil)) (dw_bin (op_subG op_never) (dw_bin (op_addG op_never) (sv 1 n.see) d_int) (dw_B b_len Tx.len hv_len (l_cons (sv 0 n.see) l_nil))))) hm hq rfl
theorem ok_law_sum (F : FunD K "_law_sum" "_law_sum" (defArgs (top 51)) (defBody (top 51)) (defScope (top 51)) [] [] f fd) (Tx : Txt K mg) (D_law_low : DefD (ct K) P w K mg base 1 "_law_low" false 2 s_law_low) : FnOk P w K mg base CX0 2 f fd ["_law_one", "_law_other"] (SpD (ct K) false 2 s_law_plus) := by
  have sc : FnScope ["_law_one", "_law_other"] ["_law_one", "_law_other"] (defScope (top 51)) := ⟨rfl, rfl, rfl, by decide +kernel, rfl, by decide +kernel, by decide +kernel⟩
  refine fn_D F sc rfl fun cdv A' outer s0 H E W vs ds R Q hr n hm hq => ?_
  obtain ⟨vone, vother, rfl⟩ : ∃ vone vother, ds = [vone, vother] := len2 (len_s_law_plus hm)
  have n := n.as (ρ' := [some vone, some vother]) rfl
  unfold s_law_plus at hm
  have hq := fun y u H' a b c d => hq y u H' a b c d fun h => nomatch h
  exact w_retW n (dw_call D_law_low (hr.mono (by decide)) (l_cons (dw_bin (op_addG op_never) (dw_bin (op_mulG op_never) (dw_ix (sv 0 n.see) d_int) (dw_ix (sv 1 n.see) d_int)) (dw_bin (op_mulG op_never) (dw_ix (sv 1 n.see) d_int) (dw_ix (sv 0 n.see) d_int))) (l_cons (dw_bin (op_mulG op_never) (dw_ix (sv 0 n.see) d_int) (dw_ix (sv 1 n.see) d_int)) l_nil))) hm hq rfl
theorem ok_law_by (F : FunD K "_law_by" "_law_by" (defArgs (top 52)) (defBody (top 52)) (defScope (top 52)) [] [] f fd) (Tx : Txt K mg) (D_law_low : DefD (ct K) P w K mg base 1 "_law_low" false 2 s_law_low) : FnOk P w K mg base CX0 2 f fd ["_law_one", "_law_other"] (SpD (ct K) false 2 s_law_by) := by
  have sc : FnScope ["_law_one", "_law_other"] ["_law_one", "_law_other"] (defScope (top 52)) := ⟨rfl, rfl, rfl, by decide +kernel, rfl, by decide +kernel, by decide +kernel⟩
  refine fn_D F sc rfl fun cdv A' outer s0 H E W vs ds R Q hr n hm hq => ?_
  obtain ⟨vone, vother, rfl⟩ : ∃ vone vother, ds = [vone, vother] := len2 (len_s_law_by hm)
  have n := n.as (ρ' := [some vone, some vother]) rfl
  unfold s_law_by at hm
  have hq := fun y u H' a b c d => hq y u H' a b c d fun h => nomatch h
  exact w_retW n (dw_call D_law_low (hr.mono (by decide)) (l_cons (dw_bin (op_mulG op_never) (dw_ix (sv 0 n.see) d_int) (dw_ix (sv 1 n.see) d_int)) (l_cons (dw_bin (op_mulG op_never) (dw_ix (sv 0 n.see) d_int) (dw_ix (sv 1 n.see) d_int)) l_nil))) hm hq rfl
theorem ok_law_times (F : FunD K "_law_times" "_law_times" (defArgs (top 57)) (defBody (top 57)) (defScope (top 57)) [] [] f fd) (Tx : Txt K mg) (D_law_by : DefD (ct K) P w K mg base 2 "_law_by" false 2 s_law_by) (D_law_sum : DefD (ct K) P w K mg base 2 "_law_sum" false 2 s_law_plus) (D_law_trim : DefD (ct K) P w K mg base 4 "_law_trim" false 1 s_law_trim_k41) : FnOk P w K mg base CX0 5 f fd ["_law_one", "_law_other"] (SpD (ct K) false 2 s_law_times_k42) := by
  have sc : FnScope ["_law_one", "_law_other", "_law_found", "_law_at", "_law_left", "_law_to", "_law_right_here"] ["_law_one", "_law_other"] (defScope (top 57)) := ⟨rfl, rfl, rfl, by decide +kernel, rfl, by decide +kernel, by decide +kernel⟩
  refine fn_D F sc rfl fun cdv A' outer s0 H E W vs ds R Q hr n hm hq => ?_
  obtain ⟨vone, vother, rfl⟩ : ∃ vone vother, ds = [vone, vother] := len2 (len_s_law_times_k42 hm)
  have n := n.as (ρ' := [some vone, some vother, none, none, none, none, none]) rfl
  unfold s_law_times_k42 at hm
  have hq := fun y u H' a b c d => hq y u H' a b c d fun h => nomatch h
  refine w_own 2 n (fw_mul (l_cons (dw_tup (l_cons d_int (l_cons d_int l_nil))) l_nil) (dw_B (b_max rfl) Tx.max hv_max (l_cons d_int (l_cons (dw_bin (op_subG op_never) (dw_bin (op_addG op_never) (dw_B b_len Tx.len hv_len (l_cons (sv 0 n.see) l_nil)) (dw_B b_len Tx.len hv_len (l_cons (sv 1 n.see) l_nil))) d_int) l_nil)))) hm sc.nd (fun vfound vpO _ _ _ o hm => ?_)
  refine w_forO2 3 4 (fun vs : List D => [some vone, some vother, none, none, none, none, none]) (fun vs => vs) (vfound : List D) o (iw_enum (l_cons (sv 0 o.now.see) l_nil) Tx.enumerate) hm sc.nd PassesOwn.never rfl (fun _ o => o.cut (.same (.same (.none (.none (.none (.none (.none .nil)))))))) (fun _ vnO vat vleft vs nx bk Nx Bk _ _ _ o h1 h2 hm => ?_) (fun vs _ _ _ o hm => ?_)
  · have o := o.as (ρ' := [some vone, some vother, none, some vat, some vleft, none, none]) rfl
    refine w_forO2 5 6 (fun vs2 : List D => [some vone, some vother, none, some vat, some vleft, none, none]) (fun vs2 => vs2) (vs : List D) o (iw_enum (l_cons (sv 1 o.now.see) l_nil) Tx.enumerate) hm sc.nd PassesOwn.never rfl (fun _ o => o.cut (.same (.same (.none (.same (.same (.none (.none .nil)))))))) (fun _ vnO2 vto vright_here vs2 nx bk Nx Bk _ _ _ o h1 h2 hm => ?_) (fun vs2 _ _ _ o hm => ?_)
    · have o := o.as (ρ' := [some vone, some vother, none, some vat, some vleft, some vto, some vright_here]) rfl
      refine w_storeO o (dw_call D_law_sum (hr.mono (by decide)) (l_cons (dw_ixO o (dw_bin (op_addG op_never) (sv 3 o.now.see) (sv 5 o.now.see))) (l_cons (dw_call D_law_by (hr.mono (by decide)) (l_cons (sv 4 o.now.see) (l_cons (sv 6 o.now.see) l_nil))) l_nil))) (dw_bin (op_addG op_never) (sv 3 o.now.see) (sv 5 o.now.see)) hm (fun vfound2 _ _ o hm => ?_)
      exact w_nil (h1 vfound2 _ _ _ (o.cut (.same (.same (.none (.same (.same (.none (.none .nil)))))))) hm)
    · have o := o.as (ρ' := [some vone, some vother, none, some vat, some vleft, none, none]) rfl
      exact w_nil (h1 vs2 _ _ _ (o.cut (.same (.same (.none (.none (.none (.none (.none .nil)))))))) hm)
  · have o := o.as (ρ' := [some vone, some vother, none, none, none, none, none]) rfl
    have n := (o.end_).as (ρ' := [some vone, some vother, some (D.lst vs), none, none, none, none]) rfl
    exact w_retW n (dw_call D_law_trim (hr.mono (by decide)) (l_cons (sv 2 n.see) l_nil)) hm hq rfl
theorem ok_law_formed (F : FunD K "_law_formed" "_law_formed" (defArgs (top 66)) (defBody (top 66)) (defScope (top 66)) [] [] f fd) (Tx : Txt K mg) (D_law_filled : DefD (ct K) P w K mg base 1 "_law_filled" false 2 s_law_filled) (D_law_headed : DefD (ct K) P w K mg base 5 "_law_headed" false 1 s_law_headed) (D_law_plain : DefD (ct K) P w K mg base 5 "_law_plain" false 1 s_law_plain) (D_law_times : DefD (ct K) P w K mg base 5 "_law_times" false 2 s_law_times_k42) : FnOk P w K mg base CX0 6 f fd ["_law_one", "_law_other"] (SpD (ct K) false 2 s_law_formed) := by
  have sc : FnScope ["_law_one", "_law_other", "_law_near", "_law_far"] ["_law_one", "_law_other"] (defScope (top 66)) := ⟨rfl, rfl, rfl, by decide +kernel, rfl, by decide +kernel, by decide +kernel⟩
  refine fn_D F sc rfl fun cdv A' outer s0 H E W vs ds R Q hr n hm hq => ?_
  obtain ⟨vone, vother, rfl⟩ : ∃ vone vother, ds = [vone, vother] := len2 (len_s_law_formed hm)
  have n := n.as (ρ' := [some vone, some vother, none, none]) rfl
  unfold s_law_formed at hm
  have hq := fun y u H' a b c d => hq y u H' a b c d fun h => nomatch h
  refine w_par 2 3 n (l_cons (dw_call D_law_plain (hr.mono (by decide)) (l_cons (sv 0 n.see) l_nil)) (l_cons (dw_call D_law_plain (hr.mono (by decide)) (l_cons (sv 1 n.see) l_nil)) l_nil)) hm rfl sc.nd (fun vnear vfar _ _ n1 hm => ?_) l2_len
  have hm := l2_ap hm
  have n := n1.as (ρ' := [some vone, some vother, some vnear, some vfar]) rfl
  exact w_retW n (dw_call D_law_headed (hr.mono (by decide)) (l_cons (dw_call D_law_filled (hr.mono (by decide)) (l_cons (dw_call D_law_times (hr.mono (by decide)) (l_cons (dw_ix (sv 2 n.see) d_int) (l_cons (dw_ix (sv 3 n.see) d_int) l_nil))) (l_cons (dw_bin (op_subG op_never) (dw_bin (op_addG op_never) (dw_B b_len Tx.len hv_len (l_cons (sv 0 n.see) l_nil)) (dw_B b_len Tx.len hv_len (l_cons (sv 1 n.see) l_nil))) d_int) l_nil))) l_nil)) hm hq rfl
theorem ok_law_passed (F : FunD K "_law_passed" "_law_passed" (defArgs (top 59)) (defBody (top 59)) (defScope (top 59)) [] [] f fd) (Tx : Txt K mg) (D_law_draw : DefD (ct K) P w K mg base 1 "_law_draw" false 2 s_law_draw) (M_Ratio2 : MkD (ct K) P w K mg base 4 0 "Ratio" 2 s_Ratio_init []) : FnOk P w K mg base CX0 6 f fd ["_law_pot_here", "_law_pair"] (SpD (ct K) false 2 s_law_passed) := by
  have sc : FnScope ["_law_pot_here", "_law_pair", "_law_is_small"] ["_law_pot_here", "_law_pair"] (defScope (top 59)) := ⟨rfl, rfl, rfl, by decide +kernel, rfl, by decide +kernel, by decide +kernel⟩
  refine fn_D F sc rfl fun cdv A' outer s0 H E W vs ds R Q hr n hm hq => ?_
  obtain ⟨vpot_here, vpair, rfl⟩ : ∃ vpot_here vpair, ds = [vpot_here, vpair] := len2 (len_s_law_passed hm)
  have n := n.as (ρ' := [some vpot_here, some vpair, none]) rfl
  unfold s_law_passed at hm
  have hq := fun y u H' a b c d => hq y u H' a b c d fun h => nomatch h
  refine w_set 2 n (dw_and (dw_cmp (op_eqT Tx.E0 1 (hr.mono (by decide))) (dw_ix (sv 1 n.see) d_int) d_int) (dw_one (dw_cmp op_ltG (dw_B b_abs Tx.abs hv_abs (l_cons (dw_ix (sv 1 n.see) d_int) l_nil)) (dw_bin op_powG d_int d_int)))) hm sc.nd (fun vis_small _ _ n1 hm => ?_)
  have n := n1.as (ρ' := [some vpot_here, some vpair, some vis_small]) rfl
  exact w_retW n (dw_if (tw_w (ww_and (tw_tru (sv 2 n.see)) (ww_and1 (tw_cmp (op_eqT Tx.E0 1 (hr.mono (by decide))) (dw_call D_law_draw (hr.mono (by decide)) (l_cons (sv 0 n.see) (l_cons d_int l_nil))) d_int)))) (dw_ix (sv 1 n.see) d_int) (dw_make M_Ratio2 (hr.mono (by decide)) (l_cons (dw_ix (sv 1 n.see) d_int) (l_cons (dw_ix (sv 1 n.see) d_int) l_nil)))) hm hq rfl
theorem ok_law_given_form (F : FunD K "_law_given_form" "_law_given_form" (defArgs (top 69)) (defBody (top 69)) (defScope (top 69)) [] [] f fd) (Tx : Txt K mg) (D_law_draw : DefD (ct K) P w K mg base 1 "_law_draw" false 2 s_law_draw) (D_law_passed : DefD (ct K) P w K mg base 6 "_law_passed" false 2 s_law_passed) : FnOk P w K mg base CX0 7 f fd ["_law_pot_here", "_law_form_here"] (SpD (ct K) false 2 s_law_given_form) := by
  have sc : FnScope ["_law_pot_here", "_law_form_here", "_law_found", "_law_entry_here"] ["_law_pot_here", "_law_form_here"] (defScope (top 69)) := ⟨rfl, rfl, rfl, by decide +kernel, rfl, by decide +kernel, by decide +kernel⟩
  refine fn_D F sc rfl fun cdv A' outer s0 H E W vs ds R Q hr n hm hq => ?_
  obtain ⟨vpot_here, vform_here, rfl⟩ : ∃ vpot_here vform_here, ds = [vpot_here, vform_here] := len2 (len_s_law_given_form hm)
  have n := n.as (ρ' := [some vpot_here, some vform_here, none, none]) rfl
  unfold s_law_given_form at hm
  have hq := fun y u H' a b c d => hq y u H' a b c d fun h => nomatch h
  refine w_setC 2 n (dc_1 3 (iw_val (sv 1 n.see)) n.see (fun _ _ _ _ _ _ _ _ ventry_here S2 => have S2 := S2.as (ρ' := [some vpot_here, some vform_here, none, some ventry_here]) rfl; (dw_call D_law_passed (hr.mono (by decide)) (l_cons (sv 0 S2) (l_cons (sv 3 S2) l_nil)))) rfl sc.nd (blkOk_by (show blkC ["_law_pot_here", "_law_form_here", "_law_found", "_law_entry_here"] (defScope (top 69)) _ _ = true by decide +kernel)) (fun _ _ _ _ _ => pg_name (i := 3) sc.nd rfl (by first | exact Or.inl rfl | exact Or.inr rfl))) hm (fun vfound _ _ n1 hm => ?_)
  have n := n1.as (ρ' := [some vpot_here, some vform_here, some vfound, none]) rfl
  exact w_retW n (dw_if (tw_cmp (op_eqT Tx.E0 1 (hr.mono (by decide))) (dw_call D_law_draw (hr.mono (by decide)) (l_cons (sv 0 n.see) (l_cons d_int l_nil))) d_int) (dw_Ty b_tuple Tx.tuple_ hv_tuple (l_cons (sv 2 n.see) l_nil)) (sv 2 n.see)) hm hq rfl
theorem ok_law_pick (F : FunD K "_law_pick" "_law_pick" (defArgs (top 49)) (defBody (top 49)) (defScope (top 49)) [] [] f fd) (Tx : Txt K mg) (D_law_draw : DefD (ct K) P w K mg base 1 "_law_draw" false 2 s_law_draw) : FnOk P w K mg base CX0 2 f fd ["_law_pot_here", "_law_some"] (SpD (ct K) false 2 s_law_pick) := by
  have sc : FnScope ["_law_pot_here", "_law_some"] ["_law_pot_here", "_law_some"] (defScope (top 49)) := ⟨rfl, rfl, rfl, by decide +kernel, rfl, by decide +kernel, by decide +kernel⟩
  refine fn_D F sc rfl fun cdv A' outer s0 H E W vs ds R Q hr n hm hq => ?_
  obtain ⟨vpot_here, vsome, rfl⟩ : ∃ vpot_here vsome, ds = [vpot_here, vsome] := len2 (len_s_law_pick hm)
  have n := n.as (ρ' := [some vpot_here, some vsome]) rfl
  unfold s_law_pick at hm
  have hq := fun y u H' a b c d => hq y u H' a b c d fun h => nomatch h
  exact w_retW n (dw_ix (sv 1 n.see) (dw_call D_law_draw (hr.mono (by decide)) (l_cons (sv 0 n.see) (l_cons (dw_B b_len Tx.len hv_len (l_cons (sv 1 n.see) l_nil)) l_nil)))) hm hq rfl
theorem ok_law_entry (F : FunD K "_law_entry" "_law_entry" (defArgs (top 61)) (defBody (top 61)) (defScope (top 61)) [] [] f fd) (Tx : Txt K mg) (D_law_pick : DefD (ct K) P w K mg base 2 "_law_pick" false 2 s_law_pick) : FnOk P w K mg base CX0 3 f fd ["_law_pot_here"] (SpD (ct K) false 1 s_law_entry) := by
  have sc : FnScope ["_law_pot_here"] ["_law_pot_here"] (defScope (top 61)) := ⟨rfl, rfl, rfl, by decide +kernel, rfl, by decide +kernel, by decide +kernel⟩
  refine fn_D F sc rfl fun cdv A' outer s0 H E W vs ds R Q hr n hm hq => ?_
  obtain ⟨vpot_here, rfl⟩ : ∃ vpot_here, ds = [vpot_here] := len1 (len_s_law_entry hm)
  have n := n.as (ρ' := [some vpot_here]) rfl
  unfold s_law_entry at hm
  have hq := fun y u H' a b c d => hq y u H' a b c d fun h => nomatch h
  exact w_retW n (dw_call D_law_pick (hr.mono (by decide)) (l_cons (sv 0 n.see) (l_cons (dw_lst (l_cons (dw_tup (l_cons d_int (l_cons d_int l_nil))) (l_cons (dw_tup (l_cons d_int (l_cons d_int l_nil))) (l_cons (dw_tup (l_cons d_int (l_cons d_int l_nil))) (l_cons (dw_tup (l_cons (dw_un (op_negG op1_never) d_int) (l_cons d_int l_nil))) (l_cons (dw_tup (l_cons d_int (l_cons d_int l_nil))) (l_cons (dw_tup (l_cons d_int (l_cons d_int l_nil))) (l_cons (dw_tup (l_cons (dw_un (op_negG op1_never) d_int) (l_cons d_int l_nil))) (l_cons (dw_tup (l_cons d_int (l_cons d_int l_nil))) (l_cons (dw_tup (l_cons (dw_un (op_negG op1_never) d_int) (l_cons d_int l_nil))) l_nil)))))))))) l_nil))) hm hq rfl
theorem ok_law_standing (F : FunD K "_law_standing" "_law_standing" (defArgs (top 62)) (defBody (top 62)) (defScope (top 62)) [] [] f fd) (Tx : Txt K mg) (D_law_draw : DefD (ct K) P w K mg base 1 "_law_draw" false 2 s_law_draw) (D_law_entry : DefD (ct K) P w K mg base 3 "_law_entry" false 1 s_law_entry) (D_law_pick : DefD (ct K) P w K mg base 2 "_law_pick" false 2 s_law_pick) : FnOk P w K mg base CX0 4 f fd ["_law_pot_here", "_law_many"] (SpD (ct K) false 2 s_law_standing_k41) := by
  have sc : FnScope ["_law_pot_here", "_law_many", "_law_found", "_law_place"] ["_law_pot_here", "_law_many"] (defScope (top 62)) := ⟨rfl, rfl, rfl, by decide +kernel, rfl, by decide +kernel, by decide +kernel⟩
  refine fn_D F sc rfl fun cdv A' outer s0 H E W vs ds R Q hr n hm hq => ?_
  obtain ⟨vpot_here, vmany, rfl⟩ : ∃ vpot_here vmany, ds = [vpot_here, vmany] := len2 (len_s_law_standing_k41 hm)
  have n := n.as (ρ' := [some vpot_here, some vmany, none, none]) rfl
  unfold s_law_standing_k41 at hm
  have hq := fun y u H' a b c d => hq y u H' a b c d fun h => nomatch h
  refine w_setC 2 n (dc_1 3 (iw_range1 (l_cons (dw_call D_law_draw (hr.mono (by decide)) (l_cons (sv 0 n.see) (l_cons (sv 1 n.see) l_nil))) l_nil) Tx.range) n.see (fun _ _ _ _ _ _ _ _ vplace S2 => have S2 := S2.as (ρ' := [some vpot_here, some vmany, none, some vplace]) rfl; (dw_call D_law_entry (hr.mono (by decide)) (l_cons (sv 0 S2) l_nil))) rfl sc.nd (blkOk_by (show blkC ["_law_pot_here", "_law_many", "_law_found", "_law_place"] (defScope (top 62)) _ _ = true by decide +kernel)) (fun _ _ _ _ _ => pg_name (i := 3) sc.nd rfl (by first | exact Or.inl rfl | exact Or.inr rfl))) hm (fun vfound _ _ n1 hm => ?_)
  have n := n1.as (ρ' := [some vpot_here, some vmany, some vfound, none]) rfl
  exact w_retW n (dw_bin (op_addG op_never) (sv 2 n.see) (dw_lst (l_cons (dw_call D_law_pick (hr.mono (by decide)) (l_cons (sv 0 n.see) (l_cons (dw_lst (l_cons (dw_tup (l_cons d_int (l_cons d_int l_nil))) (l_cons (dw_tup (l_cons (dw_un (op_negG op1_never) d_int) (l_cons d_int l_nil))) (l_cons (dw_tup (l_cons d_int (l_cons d_int l_nil))) l_nil)))) l_nil))) l_nil))) hm hq rfl
theorem ok_law_form (F : FunD K "_law_form" "_law_form" (defArgs (top 68)) (defBody (top 68)) (defScope (top 68)) [] [] f fd) (Tx : Txt K mg) (D_law_draw : DefD (ct K) P w K mg base 1 "_law_draw" false 2 s_law_draw) (D_law_standing : DefD (ct K) P w K mg base 4 "_law_standing" false 2 s_law_standing_k41) : FnOk P w K mg base CX0 5 f fd ["_law_pot_here", "_law_many"] (SpD (ct K) false 2 s_law_form_k42) := by
  have sc : FnScope ["_law_pot_here", "_law_many"] ["_law_pot_here", "_law_many"] (defScope (top 68)) := ⟨rfl, rfl, rfl, by decide +kernel, rfl, by decide +kernel, by decide +kernel⟩
  refine fn_D F sc rfl fun cdv A' outer s0 H E W vs ds R Q hr n hm hq => ?_
  obtain ⟨vpot_here, vmany, rfl⟩ : ∃ vpot_here vmany, ds = [vpot_here, vmany] := len2 (len_s_law_form_k42 hm)
  have n := n.as (ρ' := [some vpot_here, some vmany]) rfl
  unfold s_law_form_k42 at hm
  have hq := fun y u H' a b c d => hq y u H' a b c d fun h => nomatch h
  exact w_retW n (dw_bin (op_addG op_never) (dw_call D_law_standing (hr.mono (by decide)) (l_cons (sv 0 n.see) (l_cons (sv 1 n.see) l_nil))) (dw_bin (op_mulG op_never) (dw_lst (l_cons (dw_tup (l_cons d_int (l_cons d_int l_nil))) l_nil)) (dw_call D_law_draw (hr.mono (by decide)) (l_cons (sv 0 n.see) (l_cons d_int l_nil))))) hm hq rfl
theorem ok_law_told (F : FunD K "_law_told" "_law_told" (defArgs (top 60)) (defBody (top 60)) (defScope (top 60)) [] [] f fd) (Tx : Txt K mg) (P_Ratio_bottom : PropD (ct K) P w K mg base 1 0 "bottom" false s_Ratio_bottom) (P_Ratio_top : PropD (ct K) P w K mg base 1 0 "top" false s_Ratio_top) : FnOk P w K mg base CX0 3 f fd ["_law_value"] (SpD (ct K) false 1 s_law_told) := by
  have sc : FnScope ["_law_value", "_law_entry_here"] ["_law_value"] (defScope (top 60)) := ⟨rfl, rfl, rfl, by decide +kernel, rfl, by decide +kernel, by decide +kernel⟩
  refine fn_D F sc rfl fun cdv A' outer s0 H E W vs ds R Q hr n hm hq => ?_
  obtain ⟨vvalue, rfl⟩ : ∃ vvalue, ds = [vvalue] := len1 (len_s_law_told hm)
  have n := n.as (ρ' := [some vvalue, none]) rfl
  unfold s_law_told at hm
  have hq := fun y u H' a b c d => hq y u H' a b c d fun h => nomatch h
  refine w_if n (tw_w (ww_or (tw_not (tw_tru (dw_isi Tx.C (sv 0 n.see) (ty_b .list Tx.list_ hv_list (fun _ h => nomatch h)) Tx.isinstance))) (ww_or1 (tw_not (tw_tru (dw_B (b_all rfl) Tx.all hv_all (l_cons (dc_1 1 (iw_val (sv 0 n.see)) n.see (fun _ _ _ _ _ _ _ _ ventry_here S2 => have S2 := S2.as (ρ' := [some vvalue, some ventry_here]) rfl; (dw_isi Tx.C (sv 1 S2) (ty_c 0 (by show 0 < 1; decide) Tx.mg_Ratio) Tx.isinstance)) rfl sc.nd (blkOk_by (show blkC ["_law_value", "_law_entry_here"] (defScope (top 60)) _ _ = true by decide +kernel)) (fun _ _ _ _ _ => pg_name (i := 1) sc.nd rfl (by first | exact Or.inl rfl | exact Or.inr rfl))).dw l_nil))))))) hm (fun _ n hm => ?_) (fun _ n hm => ?_)
  · exact w_retW n d_non hm hq rfl
  · refine w_nil ?_
    show Wss _ _ _ _ _
    exact w_retW n (dc_1 1 (iw_val (sv 0 n.see)) n.see (fun _ _ _ _ _ _ _ _ ventry_here2 S2 => have S2 := S2.as (ρ' := [some vvalue, some ventry_here2]) rfl; (dw_tup (l_cons (dw_prop P_Ratio_top Tx.C (hr.mono (by decide)) (sv 1 S2)) (l_cons (dw_prop P_Ratio_bottom Tx.C (hr.mono (by decide)) (sv 1 S2)) l_nil)))) rfl sc.nd (blkOk_by (show blkC ["_law_value", "_law_entry_here"] (defScope (top 60)) _ _ = true by decide +kernel)) (fun _ _ _ _ _ => pg_name (i := 1) sc.nd rfl (by first | exact Or.inl rfl | exact Or.inr rfl))).dw hm hq rfl
theorem ok_law_two_right (F : Fun K "_law_two_right" "_law_two_right" (top 71) f fd) (Tx : Txt K mg) (D_law_formed : DefD (ct K) P w K mg base 6 "_law_formed" false 2 s_law_formed) (D_law_given_form : DefD (ct K) P w K mg base 7 "_law_given_form" false 2 s_law_given_form) (D_law_headed : DefD (ct K) P w K mg base 5 "_law_headed" false 1 s_law_headed) (D_law_told : DefD (ct K) P w K mg base 3 "_law_told" false 1 s_law_told) (D_divides : DefD (ct K) P w K mg base 9 "divides" false 2 s_divides) (D_product : DefD (ct K) P w K mg base 9 "product" true 2 s_product) (D_rest_form : DefD (ct K) P w K mg base 9 "rest_form" true 2 s_rest_form) (K_divides_form_other : DefK (ct K) P w K mg base 9 "divides" false 0 ["form", "other"] [0, 1] 2 s_divides) (K_product_other_form : DefK (ct K) P w K mg base 9 "product" true 0 ["other", "form"] [1, 0] 2 s_product) (K_rest_form_other_form : DefK (ct K) P w K mg base 9 "rest_form" true 0 ["other", "form"] [1, 0] 2 s_rest_form) (E1 : EqsB (ct K) P w K mg base 4 ownE) (RT : TxtB (ct K) P w K mg base 1 ownT) : FnG P w K mg base 10 f fd ["_law_pot_here", "_law_one", "_law_other"] (SpD (ct K) false 3 s_law_two_right_k42) := by
  have sc : FnScope ["_law_pot_here", "_law_one", "_law_other", "_law_near", "_law_far", "_law_due", "_law_stay", "_law_told_here"] ["_law_pot_here", "_law_one", "_law_other"] (defScope (top 71)) := ⟨rfl, rfl, rfl, by decide +kernel, rfl, by decide +kernel, by decide +kernel⟩
  refine fn_DG F sc rfl fun cdv A' outer s0 H W vs ds R Q hG hr n hm hq => ?_
  obtain ⟨vpot_here, vone, vother, rfl⟩ : ∃ vpot_here vone vother, ds = [vpot_here, vone, vother] := len3 (len_s_law_two_right_k42 hm)
  have n := n.as (ρ' := [some vpot_here, some vone, some vother, none, none, none, none, none]) rfl
  unfold s_law_two_right_k42 at hm
  have hq := fun y u H' a b c d => hq y u H' a b c d fun h => nomatch h
  refine w_par3 3 4 5 n (l_cons (dw_call D_law_given_form (hr.mono (by decide)) (l_cons (sv 0 n.see) (l_cons (sv 1 n.see) l_nil))) (l_cons (dw_call D_law_given_form (hr.mono (by decide)) (l_cons (sv 0 n.see) (l_cons (sv 2 n.see) l_nil))) (l_cons (dw_call D_law_formed (hr.mono (by decide)) (l_cons (sv 1 n.see) (l_cons (sv 2 n.see) l_nil))) l_nil))) hm rfl sc.nd (fun vnear vfar vdue _ _ n1 hm => ?_) l3_len
  have hm := l3_ap hm
  have n := n1.as (ρ' := [some vpot_here, some vone, some vother, some vnear, some vfar, some vdue, none, none]) rfl
  refine w_parR 6 7 n (dw_B (b_repr (n := 2) RT hG (hr.mono (by decide))) Tx.repr hv_repr (l_cons (dw_lst (l_cons (sv 3 n.see) (l_cons (sv 4 n.see) l_nil))) l_nil)) (fun _ S2 => (fd_call D_product (hr.mono (by decide)) (l_cons (sv 3 S2) (l_cons (sv 4 S2) l_nil)))) hm rfl sc.nd (fun vstay vtold_here _ _ _ _ r hm => ?_)
  refine w_if r.now.base (tw_thawR r (tw_w (ww_or (tw_cmp (op_neT E1 3 (hr.mono (by decide))) (dw_call D_law_told (hr.mono (by decide)) (l_cons (sv 7 (r.end_).see) l_nil)) (sv 5 (r.end_).see)) (ww_or (tw_cmp (op_neT E1 3 (hr.mono (by decide))) (dw_callK K_product_other_form (hr.mono (by decide)) (k_cons (sv 3 (r.end_).see) (k_cons (sv 4 (r.end_).see) k_nil))) (sv 7 (r.end_).see)) (ww_or1 (tw_cmp (op_neT E1 3 (hr.mono (by decide))) (dw_B (b_repr (n := 2) RT hG (hr.mono (by decide))) Tx.repr hv_repr (l_cons (dw_lst (l_cons (sv 3 (r.end_).see) (l_cons (sv 4 (r.end_).see) l_nil))) l_nil)) (sv 6 (r.end_).see))))))) hm (fun _ n1 hm => ?_) (fun _ n1 hm => ?_)
  · have r := r.next (ρ1 := [some vpot_here, some vone, some vother, some vnear, some vfar, some vdue, some vstay, none]) n1
    exact w_retR r d_bl hm hq rfl
  · have r := r.next (ρ1 := [some vpot_here, some vone, some vother, some vnear, some vfar, some vdue, some vstay, none]) n1
    refine w_nil ?_
    show Wss _ _ _ _ _
    refine w_if r.now.base (tw_thawR r (tw_w (ww_or (tw_cmp op_notBG (dw_call D_divides (hr.mono (by decide)) (l_cons (sv 3 (r.end_).see) (l_cons (sv 7 (r.end_).see) l_nil))) d_bl) (ww_or1 (tw_cmp op_notBG (dw_callK K_divides_form_other (hr.mono (by decide)) (k_cons (sv 4 (r.end_).see) (k_cons (sv 7 (r.end_).see) k_nil))) d_bl))))) hm (fun _ n1 hm => ?_) (fun _ n1 hm => ?_)
    · have r := r.next (ρ1 := [some vpot_here, some vone, some vother, some vnear, some vfar, some vdue, some vstay, none]) n1
      exact w_retR r d_bl hm hq rfl
    · have r := r.next (ρ1 := [some vpot_here, some vone, some vother, some vnear, some vfar, some vdue, some vstay, none]) n1
      refine w_nil ?_
      show Wss _ _ _ _ _
      refine w_if r.now.base (tw_thawR r (tw_w (ww_or (tw_cmp (op_neT E1 3 (hr.mono (by decide))) (dw_call D_law_told (hr.mono (by decide)) (l_cons (dw_call D_rest_form (hr.mono (by decide)) (l_cons (sv 3 (r.end_).see) (l_cons (sv 7 (r.end_).see) l_nil))) l_nil)) (dw_call D_law_headed (hr.mono (by decide)) (l_cons (sv 2 (r.end_).see) l_nil))) (ww_or1 (tw_cmp (op_neT E1 3 (hr.mono (by decide))) (dw_call D_law_told (hr.mono (by decide)) (l_cons (dw_callK K_rest_form_other_form (hr.mono (by decide)) (k_cons (sv 7 (r.end_).see) (k_cons (sv 4 (r.end_).see) k_nil))) l_nil)) (dw_call D_law_headed (hr.mono (by decide)) (l_cons (sv 1 (r.end_).see) l_nil))))))) hm (fun _ n1 hm => ?_) (fun _ n1 hm => ?_)
      · have r := r.next (ρ1 := [some vpot_here, some vone, some vother, some vnear, some vfar, some vdue, some vstay, none]) n1
        exact w_retR r d_bl hm hq rfl
      · have r := r.next (ρ1 := [some vpot_here, some vone, some vother, some vnear, some vfar, some vdue, some vstay, none]) n1
        refine w_nil ?_
        show Wss _ _ _ _ _
        obtain ⟨vtold_here2, evtold_here2, hspo, hrest⟩ := hm
        subst evtold_here2
        refine w_spoil1 r d_non hspo (fun _ n => ?_)
        have hm := hrest
        have n := n.as (ρ' := [some vpot_here, some vone, some vother, some vnear, some vfar, some vdue, some vstay, none]) rfl
        exact w_retW n (dw_cmp (op_eqT E1 3 (hr.mono (by decide))) (dw_call D_law_told (hr.mono (by decide)) (l_cons (dw_call D_product (hr.mono (by decide)) (l_cons (sv 3 n.see) (l_cons (sv 4 n.see) l_nil))) l_nil)) (sv 5 n.see)) hm hq rfl
theorem ok_law_rest (F : FunD K "_law_rest" "_law_rest" (defArgs (top 70)) (defBody (top 70)) (defScope (top 70)) [] [] f fd) (Tx : Txt K mg) (DX_rest_form : DefDX (ct K) P w K mg base 9 "rest_form" (He.ga K "NotDivided") 2 sx_rest_form) (XC_NotDivided : ExcC K mg "NotDivided" (He.ga K "NotDivided") [.type "RuntimeError", .type "Exception", .type "BaseException", .type "object"] "RuntimeError.__new__") : FnOk P w K mg base CX0 10 f fd ["_law_form_here", "_law_other"] (SpD (ct K) false 2 s_law_rest) := by
  have sc : FnScope ["_law_form_here", "_law_other", "_law_told_here"] ["_law_form_here", "_law_other"] (defScope (top 70)) := ⟨rfl, rfl, rfl, by decide +kernel, rfl, by decide +kernel, by decide +kernel⟩
  refine fn_D F sc rfl fun cdv A' outer s0 H E W vs ds R Q hr n hm hq => ?_
  obtain ⟨vform_here, vother, rfl⟩ : ∃ vform_here vother, ds = [vform_here, vother] := len2 (len_s_law_rest hm)
  have n := n.as (ρ' := [some vform_here, some vother, none]) rfl
  unfold s_law_rest at hm
  have hq := fun y u H' a b c d => hq y u H' a b c d fun h => nomatch h
  refine w_set 2 n (d_non) hm sc.nd (fun vtold_here _ _ n1 hm => ?_)
  have n := n1.as (ρ' := [some vform_here, some vother, some vtold_here]) rfl
  refine w_try (Nn := (rt D.non) (fun vtold_here3 => (rt vtold_here3) R)) n XC_NotDivided rfl rfl takes0 (fun Wx pn xe tk hx => ?_) (fun a pn _ n hm => ?_)
  · refine w_setX 2 n tk (dwx_call DX_rest_form (hr.mono (by decide)) (l_cons (sv 0 n.see) (l_cons (sv 1 n.see) l_nil))) hm sc.nd (fun vtold_here2 _ _ n1 hm => ?_) (fun h _ n1 => hx _ n1 (optX_none h))
    have hm := optX_some hm
    have n := n1.as (ρ' := [some vform_here, some vother, some vtold_here2]) rfl
    refine w_nil ?_
    show Wss _ _ _ _ _
    exact w_retW n (sv 2 n.see) hm hq rfl
  · refine w_set 2 n (d_non) hm sc.nd (fun vtold_here3 _ _ n1 hm => ?_)
    have n := n1.as (ρ' := [some vform_here, some vother, some vtold_here3]) rfl
    refine w_nil ?_
    show Wss _ _ _ _ _
    exact w_retW n (sv 2 n.see) hm hq rfl
theorem ok_law_plus (F : FunD K "_law_plus" "_law_plus" (defArgs (top 55)) (defBody (top 55)) (defScope (top 55)) [] [] f fd) (Tx : Txt K mg) (D_law_sum : DefD (ct K) P w K mg base 2 "_law_sum" false 2 s_law_plus) (D_law_trim : DefD (ct K) P w K mg base 4 "_law_trim" false 1 s_law_trim_k41) : FnOk P w K mg base CX0 5 f fd ["_law_one", "_law_other"] (SpD (ct K) false 2 s_law_plus_k42) := by
  have sc : FnScope ["_law_one", "_law_other", "_law_many", "_law_near", "_law_far", "_law_left", "_law_right_here"] ["_law_one", "_law_other"] (defScope (top 55)) := ⟨rfl, rfl, rfl, by decide +kernel, rfl, by decide +kernel, by decide +kernel⟩
  refine fn_D F sc rfl fun cdv A' outer s0 H E W vs ds R Q hr n hm hq => ?_
  obtain ⟨vone, vother, rfl⟩ : ∃ vone vother, ds = [vone, vother] := len2 (len_s_law_plus_k42 hm)
  have n := n.as (ρ' := [some vone, some vother, none, none, none, none, none]) rfl
  unfold s_law_plus_k42 at hm
  have hq := fun y u H' a b c d => hq y u H' a b c d fun h => nomatch h
  refine w_set 2 n (dw_B (b_max rfl) Tx.max hv_max (l_cons (dw_B b_len Tx.len hv_len (l_cons (sv 0 n.see) l_nil)) (l_cons (dw_B b_len Tx.len hv_len (l_cons (sv 1 n.see) l_nil)) l_nil))) hm sc.nd (fun vmany _ _ n1 hm => ?_)
  have n := n1.as (ρ' := [some vone, some vother, some vmany, none, none, none, none]) rfl
  refine w_par 3 4 n (l_cons (dw_bin (op_addG op_never) (sv 0 n.see) (dw_bin (op_mulG op_never) (dw_lst (l_cons (dw_tup (l_cons d_int (l_cons d_int l_nil))) l_nil)) (dw_bin (op_subG op_never) (sv 2 n.see) (dw_B b_len Tx.len hv_len (l_cons (sv 0 n.see) l_nil))))) (l_cons (dw_bin (op_addG op_never) (sv 1 n.see) (dw_bin (op_mulG op_never) (dw_lst (l_cons (dw_tup (l_cons d_int (l_cons d_int l_nil))) l_nil)) (dw_bin (op_subG op_never) (sv 2 n.see) (dw_B b_len Tx.len hv_len (l_cons (sv 1 n.see) l_nil))))) l_nil)) hm rfl sc.nd (fun vnear vfar _ _ n1 hm => ?_) l2_len
  have hm := l2_ap hm
  have n := n1.as (ρ' := [some vone, some vother, some vmany, some vnear, some vfar, none, none]) rfl
  exact w_retW n (dw_call D_law_trim (hr.mono (by decide)) (l_cons (dc_2 5 6 (iw_zip (l_cons (sv 3 n.see) (l_cons (sv 4 n.see) l_nil)) Tx.zip) n.see (by decide) (fun _ _ _ _ _ _ _ _ vleft vright_here S2 => have S2 := S2.as (ρ' := [some vone, some vother, some vmany, some vnear, some vfar, some vleft, some vright_here]) rfl; (dw_call D_law_sum (hr.mono (by decide)) (l_cons (sv 5 S2) (l_cons (sv 6 S2) l_nil)))) rfl sc.nd (blkOk_by (show blkC ["_law_one", "_law_other", "_law_many", "_law_near", "_law_far", "_law_left", "_law_right_here"] (defScope (top 55)) _ _ = true by decide +kernel)) (fun _ _ _ _ _ => pg_tup rfl (pgs_cons (pg_name (i := 5) sc.nd rfl (Or.inl rfl)) (pgs_cons (pg_name (i := 6) sc.nd rfl (Or.inl rfl)) pgs_nil rfl) rfl) rfl rfl)).dw l_nil)) hm hq rfl
theorem ok_law_scaled (F : FunD K "_law_scaled" "_law_scaled" (defArgs (top 56)) (defBody (top 56)) (defScope (top 56)) [] [] f fd) (Tx : Txt K mg) (D_law_by : DefD (ct K) P w K mg base 2 "_law_by" false 2 s_law_by) (D_law_trim : DefD (ct K) P w K mg base 4 "_law_trim" false 1 s_law_trim_k41) : FnOk P w K mg base CX0 5 f fd ["_law_poly", "_law_number"] (SpD (ct K) false 2 s_law_scaled_k42) := by
  have sc : FnScope ["_law_poly", "_law_number", "_law_entry_here"] ["_law_poly", "_law_number"] (defScope (top 56)) := ⟨rfl, rfl, rfl, by decide +kernel, rfl, by decide +kernel, by decide +kernel⟩
  refine fn_D F sc rfl fun cdv A' outer s0 H E W vs ds R Q hr n hm hq => ?_
  obtain ⟨vpoly, vnumber, rfl⟩ : ∃ vpoly vnumber, ds = [vpoly, vnumber] := len2 (len_s_law_scaled_k42 hm)
  have n := n.as (ρ' := [some vpoly, some vnumber, none]) rfl
  unfold s_law_scaled_k42 at hm
  have hq := fun y u H' a b c d => hq y u H' a b c d fun h => nomatch h
  exact w_retW n (dw_call D_law_trim (hr.mono (by decide)) (l_cons (dc_1 2 (iw_val (sv 0 n.see)) n.see (fun _ _ _ _ _ _ _ _ ventry_here S2 => have S2 := S2.as (ρ' := [some vpoly, some vnumber, some ventry_here]) rfl; (dw_call D_law_by (hr.mono (by decide)) (l_cons (sv 2 S2) (l_cons (sv 1 S2) l_nil)))) rfl sc.nd (blkOk_by (show blkC ["_law_poly", "_law_number", "_law_entry_here"] (defScope (top 56)) _ _ = true by decide +kernel)) (fun _ _ _ _ _ => pg_name (i := 2) sc.nd rfl (by first | exact Or.inl rfl | exact Or.inr rfl))).dw l_nil)) hm hq rfl
theorem ok_law_divided (F : FunD K "_law_divided" "_law_divided" (defArgs (top 58)) (defBody (top 58)) (defScope (top 58)) [] [] f fd) (Tx : Txt K mg) (D_law_over : DefD (ct K) P w K mg base 2 "_law_over" false 2 s_law_over) (D_law_plus : DefD (ct K) P w K mg base 5 "_law_plus" false 2 s_law_plus_k42) (D_law_scaled : DefD (ct K) P w K mg base 5 "_law_scaled" false 2 s_law_scaled_k42) (D_law_trim : DefD (ct K) P w K mg base 4 "_law_trim" false 1 s_law_trim_k41) : FnOk P w K mg base CX0 6 f fd ["_law_one", "_law_other"] (SpD (ct K) false 2 s_law_divided) := by
  have sc : FnScope ["_law_one", "_law_other", "_law_rest_here", "_law_quotient", "_law_place", "_law_factor"] ["_law_one", "_law_other"] (defScope (top 58)) := ⟨rfl, rfl, rfl, by decide +kernel, rfl, by decide +kernel, by decide +kernel⟩
  refine fn_D F sc rfl fun cdv A' outer s0 H E W vs ds R Q hr n hm hq => ?_
  obtain ⟨vone, vother, rfl⟩ : ∃ vone vother, ds = [vone, vother] := len2 (len_s_law_divided hm)
  have n := n.as (ρ' := [some vone, some vother, none, none, none, none]) rfl
  unfold s_law_divided at hm
  have hq := fun y u H' a b c d => hq y u H' a b c d fun h => nomatch h
  refine w_parO2 2 3 n (dw_Ty b_list Tx.list_ hv_list (l_cons (sv 0 n.see) l_nil)) (fun _ S2 => (fw_mul (l_cons (dw_tup (l_cons d_int (l_cons d_int l_nil))) l_nil) (dw_B (b_max rfl) Tx.max hv_max (l_cons d_int (l_cons (dw_bin (op_addG op_never) (dw_bin (op_subG op_never) (dw_B b_len Tx.len hv_len (l_cons (sv 0 S2) l_nil)) (dw_B b_len Tx.len hv_len (l_cons (sv 1 S2) l_nil))) d_int) l_nil))))) hm rfl sc.nd (fun vrest_here vquotient vpO _ _ _ o hm => ?_)
  have o := o.as (ρ' := [some vone, some vother, some vrest_here, none, none, none]) rfl
  refine w_whileO (fun vs : List D × D => [some vone, some vother, some vs.2, none, none, none]) (fun vs => vs.1) ((vquotient, vrest_here) : List D × D) o hm PassesOwn.never (o.cut (.same (.same (.same (.none (.none (.none .nil))))))) (fun vs _ _ _ o => ?_) (fun vs nx bk Nx Bk _ _ _ o h1 h2 hm => ?_) (fun vs _ _ _ o hm => ?_)
  · have o := o.as (ρ' := [some vone, some vother, some vs.2, none, none, none]) rfl
    exact (tw_cmp op_geG (dw_B b_len Tx.len hv_len (l_cons (sv 2 o.now.see) l_nil)) (dw_B b_len Tx.len hv_len (l_cons (sv 1 o.now.see) l_nil)))
  · have o := o.as (ρ' := [some vone, some vother, some vs.2, none, none, none]) rfl
    refine w_par 4 5 o.now.base (l_cons (dw_bin (op_subG op_never) (dw_B b_len Tx.len hv_len (l_cons (sv 2 o.now.see) l_nil)) (dw_B b_len Tx.len hv_len (l_cons (sv 1 o.now.see) l_nil))) (l_cons (dw_call D_law_over (hr.mono (by decide)) (l_cons (dw_ix (sv 2 o.now.see) (dw_un (op_negG op1_never) d_int)) (l_cons (dw_ix (sv 1 o.now.see) (dw_un (op_negG op1_never) d_int)) l_nil))) l_nil)) hm rfl sc.nd (fun vplace vfactor _ _ n1 hm => ?_) l2_len
    have hm := l2_ap hm
    have o := o.next (ρ1 := [some vone, some vother, some vs.2, none, some vplace, some vfactor]) n1
    refine w_storeO o (sv 5 o.now.see) (sv 4 o.now.see) hm (fun vquotient2 _ _ o hm => ?_)
    refine w_set 2 o.now.base (dw_call D_law_plus (hr.mono (by decide)) (l_cons (sv 2 o.now.see) (l_cons (dw_bin (op_addG op_never) (dw_bin (op_mulG op_never) (dw_lst (l_cons (dw_tup (l_cons d_int (l_cons d_int l_nil))) l_nil)) (sv 4 o.now.see)) (dw_call D_law_scaled (hr.mono (by decide)) (l_cons (sv 1 o.now.see) (l_cons (dw_tup (l_cons (dw_bin (op_subG op_never) d_int (dw_ix (sv 5 o.now.see) d_int)) (l_cons (dw_ix (sv 5 o.now.see) d_int) l_nil))) l_nil)))) l_nil))) hm sc.nd (fun vrest_here2 _ _ n1 hm => ?_)
    have o := o.next (ρ1 := [some vone, some vother, some vrest_here2, none, some vplace, some vfactor]) n1
    exact w_nil (h1 (vquotient2, vrest_here2) _ _ _ (o.cut (.same (.same (.same (.none (.none (.none .nil))))))) hm)
  · have o := o.as (ρ' := [some vone, some vother, some vs.2, none, none, none]) rfl
    have n := (o.end_).as (ρ' := [some vone, some vother, some vs.2, some (D.lst vs.1), none, none]) rfl
    exact w_retW n (dw_tup (l_cons (dw_call D_law_trim (hr.mono (by decide)) (l_cons (sv 3 n.see) l_nil)) (l_cons (sv 2 n.see) l_nil))) hm hq rfl
theorem ok_law_goes_in (F : FunD K "_law_goes_in" "_law_goes_in" (defArgs (top 67)) (defBody (top 67)) (defScope (top 67)) [] [] f fd) (Tx : Txt K mg) (D_law_divided : DefD (ct K) P w K mg base 6 "_law_divided" false 2 s_law_divided) (D_law_plain : DefD (ct K) P w K mg base 5 "_law_plain" false 1 s_law_plain) : FnOk P w K mg base CX0 7 f fd ["_law_one", "_law_other"] (SpD (ct K) false 2 s_law_goes_in) := by
  have sc : FnScope ["_law_one", "_law_other", "_law_near", "_law_far"] ["_law_one", "_law_other"] (defScope (top 67)) := ⟨rfl, rfl, rfl, by decide +kernel, rfl, by decide +kernel, by decide +kernel⟩
  refine fn_D F sc rfl fun cdv A' outer s0 H E W vs ds R Q hr n hm hq => ?_
  obtain ⟨vone, vother, rfl⟩ : ∃ vone vother, ds = [vone, vother] := len2 (len_s_law_goes_in hm)
  have n := n.as (ρ' := [some vone, some vother, none, none]) rfl
  unfold s_law_goes_in at hm
  have hq := fun y u H' a b c d => hq y u H' a b c d fun h => nomatch h
  refine w_par 2 3 n (l_cons (dw_call D_law_plain (hr.mono (by decide)) (l_cons (sv 0 n.see) l_nil)) (l_cons (dw_call D_law_plain (hr.mono (by decide)) (l_cons (sv 1 n.see) l_nil)) l_nil)) hm rfl sc.nd (fun vnear vfar _ _ n1 hm => ?_) l2_len
  have hm := l2_ap hm
  have n := n1.as (ρ' := [some vone, some vother, some vnear, some vfar]) rfl
  exact w_retW n (dw_and (dw_cmp op_leG (dw_ix (sv 2 n.see) d_int) (dw_ix (sv 3 n.see) d_int)) (dw_one (dw_cmp (op_eqT Tx.E0 1 (hr.mono (by decide))) (dw_ix (dw_call D_law_divided (hr.mono (by decide)) (l_cons (dw_ix (sv 3 n.see) d_int) (l_cons (dw_ix (sv 2 n.see) d_int) l_nil))) d_int) (dw_lst l_nil)))) hm hq rfl
theorem ok_law_any_right (F : Fun K "_law_any_right" "_law_any_right" (top 72) f fd) (Tx : Txt K mg) (D_law_given_form : DefD (ct K) P w K mg base 7 "_law_given_form" false 2 s_law_given_form) (D_law_goes_in : DefD (ct K) P w K mg base 7 "_law_goes_in" false 2 s_law_goes_in) (D_law_rest : DefD (ct K) P w K mg base 10 "_law_rest" false 2 s_law_rest) (D_are_like : DefD (ct K) P w K mg base 9 "are_like" false 2 s_are_like) (D_divides : DefD (ct K) P w K mg base 9 "divides" false 2 s_divides) (D_product : DefD (ct K) P w K mg base 9 "product" true 2 s_product) (K_divides_other_form : DefK (ct K) P w K mg base 9 "divides" false 0 ["other", "form"] [1, 0] 2 s_divides) (E1 : EqsB (ct K) P w K mg base 4 ownE) (RT : TxtB (ct K) P w K mg base 1 ownT) : FnG P w K mg base 11 f fd ["_law_pot_here", "_law_one", "_law_other"] (SpD (ct K) false 3 s_law_any_right) := by
  have sc : FnScope ["_law_pot_here", "_law_one", "_law_other", "_law_near", "_law_far", "_law_due", "_law_told_here"] ["_law_pot_here", "_law_one", "_law_other"] (defScope (top 72)) := ⟨rfl, rfl, rfl, by decide +kernel, rfl, by decide +kernel, by decide +kernel⟩
  refine fn_DG F sc rfl fun cdv A' outer s0 H W vs ds R Q hG hr n hm hq => ?_
  obtain ⟨vpot_here, vone, vother, rfl⟩ : ∃ vpot_here vone vother, ds = [vpot_here, vone, vother] := len3 (len_s_law_any_right hm)
  have n := n.as (ρ' := [some vpot_here, some vone, some vother, none, none, none, none]) rfl
  unfold s_law_any_right at hm
  have hq := fun y u H' a b c d => hq y u H' a b c d fun h => nomatch h
  refine w_par3 3 4 5 n (l_cons (dw_call D_law_given_form (hr.mono (by decide)) (l_cons (sv 0 n.see) (l_cons (sv 1 n.see) l_nil))) (l_cons (dw_call D_law_given_form (hr.mono (by decide)) (l_cons (sv 0 n.see) (l_cons (sv 2 n.see) l_nil))) (l_cons (dw_call D_law_goes_in (hr.mono (by decide)) (l_cons (sv 1 n.see) (l_cons (sv 2 n.see) l_nil))) l_nil))) hm rfl sc.nd (fun vnear vfar vdue _ _ n1 hm => ?_) l3_len
  have hm := l3_ap hm
  have n := n1.as (ρ' := [some vpot_here, some vone, some vother, some vnear, some vfar, some vdue, none]) rfl
  refine w_if n (tw_cmp (op_neT E1 3 (hr.mono (by decide))) (dw_B (b_repr (n := 2) RT hG (hr.mono (by decide))) Tx.repr hv_repr (l_cons (dw_lst (l_cons (dw_call D_divides (hr.mono (by decide)) (l_cons (sv 3 n.see) (l_cons (sv 4 n.see) l_nil))) (l_cons (dw_callK K_divides_other_form (hr.mono (by decide)) (k_cons (sv 4 n.see) (k_cons (sv 3 n.see) k_nil))) l_nil))) l_nil)) (dw_B (b_repr (n := 2) RT hG (hr.mono (by decide))) Tx.repr hv_repr (l_cons (dw_lst (l_cons (sv 5 n.see) (l_cons (sv 5 n.see) l_nil))) l_nil))) hm (fun _ n hm => ?_) (fun _ n hm => ?_)
  · exact w_retW n d_bl hm hq rfl
  · refine w_nil ?_
    show Wss _ _ _ _ _
    refine w_set 6 n (dw_call D_law_rest (hr.mono (by decide)) (l_cons (sv 3 n.see) (l_cons (sv 4 n.see) l_nil))) hm sc.nd (fun vtold_here _ _ n1 hm => ?_)
    have n := n1.as (ρ' := [some vpot_here, some vone, some vother, some vnear, some vfar, some vdue, some vtold_here]) rfl
    refine w_if n (tw_cmp (op_neT E1 3 (hr.mono (by decide))) (dw_cmp op_notNoneG (sv 6 n.see) d_non) (sv 5 n.see)) hm (fun _ n hm => ?_) (fun _ n hm => ?_)
    · exact w_retW n d_bl hm hq rfl
    · refine w_nil ?_
      show Wss _ _ _ _ _
      exact w_retW n (dw_or (dw_cmp op_isNoneG (sv 6 n.see) d_non) (dw_one (dw_cmp op_isBG (dw_call D_are_like (hr.mono (by decide)) (l_cons (dw_call D_product (hr.mono (by decide)) (l_cons (sv 3 n.see) (l_cons (sv 6 n.see) l_nil))) (l_cons (sv 4 n.see) l_nil))) d_bl))) hm hq rfl
theorem ok_law_right (F : Fun K "_law_right" "_law_right" (top 73) f fd) (Tx : Txt K mg) (D_law_any_right : DefDG (ct K) P w K mg base 11 "_law_any_right" false 3 s_law_any_right) (D_law_form : DefD (ct K) P w K mg base 5 "_law_form" false 2 s_law_form_k42) (D_law_formed : DefD (ct K) P w K mg base 6 "_law_formed" false 2 s_law_formed) (D_law_given_form : DefD (ct K) P w K mg base 7 "_law_given_form" false 2 s_law_given_form) (D_law_headed : DefD (ct K) P w K mg base 5 "_law_headed" false 1 s_law_headed) (D_law_told : DefD (ct K) P w K mg base 3 "_law_told" false 1 s_law_told) (D_law_two_right : DefDG (ct K) P w K mg base 10 "_law_two_right" false 3 s_law_two_right_k42) (D_divides : DefD (ct K) P w K mg base 9 "divides" false 2 s_divides) (D_product : DefD (ct K) P w K mg base 9 "product" true 2 s_product) (D_rest_form : DefD (ct K) P w K mg base 9 "rest_form" true 2 s_rest_form) (M_Ratio1 : MkD (ct K) P w K mg base 4 0 "Ratio" 2 s_Ratio_init [D.int 1]) (E1 : EqsB (ct K) P w K mg base 4 ownE) : FnG P w K mg base 12 f fd ["_law_pot_here"] (SpD (ct K) false 1 s_law_right_k42) := by
  have sc : FnScope ["_law_pot_here", "_law_one", "_law_other", "_law_third", "_law_both", "_law_near", "_law_far", "_law_given"] ["_law_pot_here"] (defScope (top 73)) := ⟨rfl, rfl, rfl, by decide +kernel, rfl, by decide +kernel, by decide +kernel⟩
  refine fn_DG F sc rfl fun cdv A' outer s0 H W vs ds R Q hG hr n hm hq => ?_
  obtain ⟨vpot_here, rfl⟩ : ∃ vpot_here, ds = [vpot_here] := len1 (len_s_law_right_k42 hm)
  have n := n.as (ρ' := [some vpot_here, none, none, none, none, none, none, none]) rfl
  unfold s_law_right_k42 at hm
  have hq := fun y u H' a b c d => hq y u H' a b c d fun h => nomatch h
  refine w_par3 1 2 3 n (l_cons (dw_call D_law_form (hr.mono (by decide)) (l_cons (sv 0 n.see) (l_cons d_int l_nil))) (l_cons (dw_call D_law_form (hr.mono (by decide)) (l_cons (sv 0 n.see) (l_cons d_int l_nil))) (l_cons (dw_call D_law_form (hr.mono (by decide)) (l_cons (sv 0 n.see) (l_cons d_int l_nil))) l_nil))) hm rfl sc.nd (fun vone vother vthird _ _ n1 hm => ?_) l3_len
  have hm := l3_ap hm
  have n := n1.as (ρ' := [some vpot_here, some vone, some vother, some vthird, none, none, none, none]) rfl
  refine w_if n (tw_w (ww_or (tw_not (tw_tru (dw_callG D_law_two_right hG (hr.mono (by decide)) (l_cons (sv 0 n.see) (l_cons (sv 1 n.see) (l_cons (sv 2 n.see) l_nil)))))) (ww_or1 (tw_not (tw_tru (dw_callG D_law_two_right hG (hr.mono (by decide)) (l_cons (sv 0 n.see) (l_cons (sv 2 n.see) (l_cons (sv 3 n.see) l_nil))))))))) hm (fun _ n hm => ?_) (fun _ n hm => ?_)
  · exact w_retW n d_bl hm hq rfl
  · refine w_nil ?_
    show Wss _ _ _ _ _
    refine w_set 4 n (dw_call D_law_formed (hr.mono (by decide)) (l_cons (sv 1 n.see) (l_cons (sv 3 n.see) l_nil))) hm sc.nd (fun vboth _ _ n1 hm => ?_)
    have n := n1.as (ρ' := [some vpot_here, some vone, some vother, some vthird, some vboth, none, none, none]) rfl
    refine w_for2 5 6 (fun vs : Unit => [some vpot_here, some vone, some vother, some vthird, some vboth, none, none, none]) (() : Unit) n (iw_val (dw_lst (l_cons (dw_tup (l_cons (sv 1 n.see) (l_cons (sv 2 n.see) l_nil))) (l_cons (dw_tup (l_cons (sv 3 n.see) (l_cons (sv 4 n.see) l_nil))) (l_cons (dw_tup (l_cons (sv 1 n.see) (l_cons (dw_call D_law_formed (hr.mono (by decide)) (l_cons (sv 4 n.see) (l_cons (sv 2 n.see) l_nil))) l_nil))) (l_cons (dw_tup (l_cons (sv 4 n.see) (l_cons (sv 1 n.see) l_nil))) (l_cons (dw_tup (l_cons (dw_bin (op_addG op_never) (sv 1 n.see) (dw_lst (l_cons (dw_tup (l_cons d_int (l_cons d_int l_nil))) l_nil))) (l_cons (sv 1 n.see) l_nil))) (l_cons (dw_tup (l_cons (sv 2 n.see) (l_cons (sv 4 n.see) l_nil))) l_nil)))))))) hm sc.nd PassesOwn.never rfl (fun _ n => n.cut (.same (.same (.same (.same (.same (.none (.none (.none .nil))))))))) (fun _ vnO vnear vfar vs nx bk Nx Bk _ _ n h1 h2 hm => ?_) (fun vs _ _ n hm => ?_)
    · have n := n.as (ρ' := [some vpot_here, some vone, some vother, some vthird, some vboth, some vnear, some vfar, none]) rfl
      refine w_if n (tw_not (tw_tru (dw_callG D_law_any_right hG (hr.mono (by decide)) (l_cons (sv 0 n.see) (l_cons (sv 5 n.see) (l_cons (sv 6 n.see) l_nil)))))) hm (fun _ n hm => ?_) (fun _ n hm => ?_)
      · exact w_retW (vnO.join n) d_bl hm hq rfl
      · refine w_nil ?_
        show Wss _ _ _ _ _
        exact w_nil (h1 () _ _ (n.cut (.same (.same (.same (.same (.same (.none (.none (.none .nil))))))))) hm)
    · have n := n.as (ρ' := [some vpot_here, some vone, some vother, some vthird, some vboth, none, none, none]) rfl
      refine w_set 7 n (dw_call D_law_given_form (hr.mono (by decide)) (l_cons (sv 0 n.see) (l_cons (sv 1 n.see) l_nil))) hm sc.nd (fun vgiven _ _ n1 hm => ?_)
      have n := n1.as (ρ' := [some vpot_here, some vone, some vother, some vthird, some vboth, none, none, some vgiven]) rfl
      refine w_if n (tw_w (ww_or (tw_cmp op_notBG (dw_call D_divides (hr.mono (by decide)) (l_cons (dw_lst (l_cons d_int l_nil)) (l_cons (sv 7 n.see) l_nil))) d_bl) (ww_or1 (tw_cmp (op_neT E1 3 (hr.mono (by decide))) (dw_call D_law_told (hr.mono (by decide)) (l_cons (dw_call D_rest_form (hr.mono (by decide)) (l_cons (dw_lst (l_cons d_int l_nil)) (l_cons (sv 7 n.see) l_nil))) l_nil)) (dw_call D_law_headed (hr.mono (by decide)) (l_cons (sv 1 n.see) l_nil)))))) hm (fun _ n hm => ?_) (fun _ n hm => ?_)
      · exact w_retW n d_bl hm hq rfl
      · refine w_nil ?_
        show Wss _ _ _ _ _
        refine w_if n (tw_cmp (op_neT E1 3 (hr.mono (by decide))) (dw_call D_product (hr.mono (by decide)) (l_cons (dw_call D_product (hr.mono (by decide)) (l_cons (sv 7 n.see) (l_cons (dw_call D_law_given_form (hr.mono (by decide)) (l_cons (sv 0 n.see) (l_cons (sv 2 n.see) l_nil))) l_nil))) (l_cons (dw_lst (l_cons d_int (l_cons d_int l_nil))) l_nil))) (dw_call D_product (hr.mono (by decide)) (l_cons (sv 7 n.see) (l_cons (dw_call D_product (hr.mono (by decide)) (l_cons (dw_lst (l_cons d_int (l_cons d_int l_nil))) (l_cons (dw_call D_law_given_form (hr.mono (by decide)) (l_cons (sv 0 n.see) (l_cons (sv 2 n.see) l_nil))) l_nil))) l_nil)))) hm (fun _ n hm => ?_) (fun _ n hm => ?_)
        · exact w_retW n d_bl hm hq rfl
        · refine w_nil ?_
          show Wss _ _ _ _ _
          exact w_retW n (dw_and (dw_cmp op_isBG (dw_call D_divides (hr.mono (by decide)) (l_cons (dw_lst (l_cons d_int (l_cons d_int l_nil))) (l_cons (dw_lst (l_cons d_int (l_cons d_int (l_cons d_int l_nil)))) l_nil))) d_bl) (dw_and (dw_cmp op_isBG (dw_call D_divides (hr.mono (by decide)) (l_cons (dw_lst (l_cons d_int (l_cons d_int l_nil))) (l_cons (dw_lst (l_cons d_int (l_cons d_int (l_cons d_int l_nil)))) l_nil))) d_bl) (dw_one (dw_cmp (op_eqT E1 3 (hr.mono (by decide))) (dw_call D_rest_form (hr.mono (by decide)) (l_cons (dw_lst (l_cons d_int (l_cons d_int l_nil))) (l_cons (dw_lst (l_cons d_int (l_cons d_int (l_cons d_int (l_cons d_int l_nil))))) l_nil))) (dw_lst (l_cons (dw_make M_Ratio1 (hr.mono (by decide)) (l_cons d_int l_nil)) (l_cons (dw_make M_Ratio1 (hr.mono (by decide)) (l_cons d_int l_nil)) (l_cons (dw_make M_Ratio1 (hr.mono (by decide)) (l_cons d_int l_nil)) l_nil)))))))) hm hq rfl
end
end K42
set_option Elab.async false
set_option linter.all false
set_option maxRecDepth 100000
set_option maxHeartbeats 4000000
namespace Uv
open PySem L2 Inn
/-! ### what is asked, read off -/
section
variable {α : Type} {R : D → Prop} {Rb : Bool → Prop} {Rl : List D → Prop} {own : D → D → M D} {own1 : D → M D} {i j : Int} {a b : List D} {x y : Str} {s : OwnE} {n : Nat}
def tstK (R : Bool → Prop) : D → Prop
  | .bl b => R b
  | _ => False
def partK (R : Option Int → Prop) : D → Prop
  | .int i => R (some i)
  | _ => False
theorem v_op2 {g : D → D → M D} {ma mb : M D} : op2 g ma mb R = ma fun x => mb fun y => g x y R := (rfl)
theorem v_op1 {g : D → M D} {ma : M D} : op1 g ma R = ma fun x => g x R := (rfl)
theorem v_opN {g : List D → M D} {ml : M (List D)} : opN g ml R = ml fun xs => g xs R := (rfl)
theorem v_rt {x : α} {R : α → Prop} : rt x R = R x := (rfl)
theorem v_asks {p : Prop} {m : M α} {R : α → Prop} : asks p m R = (p ∧ m R) := (rfl)
theorem v_lcons {m : M D} {ml : M (List D)} : lcons m ml Rl = m fun x => ml fun xs => Rl (x :: xs) := (rfl)
theorem v_lnil : lnil Rl = Rl [] := (rfl)
theorem v_tst {m : M D} : tst m Rb = m (tstK Rb) := (rfl)
theorem v_tstK {b : Bool} : tstK Rb (.bl b) = Rb b := (rfl)
theorem v_truM {m : M D} : truM m Rb = m fun d => tru d Rb := (rfl)
theorem v_notM {m : M Bool} : notM m Rb = m fun b => Rb (!b) := (rfl)
theorem v_blM {m : M Bool} : blM m R = m fun b => R (.bl b) := (rfl)
theorem v_andM {ma mb : M Bool} : Uv.andM ma mb Rb = ma fun k => ite2 k (mb Rb) (Rb false) := (rfl)
theorem v_orM {ma mb : M Bool} : Uv.orM ma mb Rb = ma fun k => ite2 k (Rb true) (mb Rb) := (rfl)
theorem v_andV {ma mb : M D} : andV ma mb R = ma fun x => tru x fun k => ite2 k (mb R) (R x) := (rfl)
theorem v_orV {ma mb : M D} : orV ma mb R = ma fun x => tru x fun k => ite2 k (R x) (mb R) := (rfl)
theorem v_iteM {m : M Bool} {ma mb : M α} {R : α → Prop} : iteM m ma mb R = m fun k => ite2 k (ma R) (mb R) := (rfl)
theorem v_t {A B : Prop} : ite2 true A B = A := (rfl)
theorem v_f {A B : Prop} : ite2 false A B = B := (rfl)
theorem v_partM {m : M D} {R : Option Int → Prop} : partM m R = m (partK R) := (rfl)
theorem v_partK {R : Option Int → Prop} : partK R (.int i) = R (some i) := (rfl)
theorem v_noPart {R : Option Int → Prop} : noPart R = R none := (rfl)
theorem v_slM {m : M D} {lo hi : M (Option Int)} : slM m lo hi R = m fun x => lo fun l => hi fun h => sliceG x l h R := (rfl)
theorem v_slice {lo hi : Option Int} : sliceG (.lst a) lo hi R = R (.lst (cut a lo hi)) := (rfl)
theorem v_rev : revG (.lst a) R = R (.lst a.reverse) := (rfl)
theorem v_walkM {g : List D → M (List D)} {ml : M (List D)} : walkM g ml Rl = ml fun xs => g xs Rl := (rfl)
theorem v_itemsM {m : M D} : itemsM m Rl = m fun d => itemsG d Rl := (rfl)
theorem v_itemsL : itemsG (.lst a) Rl = Rl a := (rfl)
theorem v_itemsT : itemsG (.tup a) Rl = Rl a := (rfl)
theorem v_lstM {ml : M (List D)} : lstM ml R = ml fun xs => xs.length ≤ sizeLine ∧ R (.lst xs) := (rfl)
theorem v_tupM {ml : M (List D)} : tupM ml R = ml fun xs => xs.length ≤ sizeLine ∧ R (.tup xs) := (rfl)
theorem v_fitM {ml : M (List D)} : fitM ml Rl = ml fun xs => xs.length ≤ sizeLine ∧ Rl xs := (rfl)
theorem v_starM {m : M D} {ml : M (List D)} : starM m ml Rl = m fun d => itemsG d fun xs => ml fun ys => Rl (xs ++ ys) := (rfl)
theorem v_lcM {it : M (List D)} {f : D → M D} : lcM it f R = it fun ds => ds.length ≤ sizeLine ∧ mapD f ds fun ys => R (.lst ys) := (rfl)
theorem v_lcIfM {it : M (List D)} {t : D → M Bool} {f : D → M D} : lcIfM it t f R = it fun ds => ds.length ≤ sizeLine ∧ mapIf t f ds fun ys => R (.lst ys) := (rfl)
def repK (xs : List D) (R : List D → Prop) : D → Prop
  | .int k => (-(2 ^ 63) ≤ k ∧ k < 2 ^ 63 ∧ xs.length * k.toNat ≤ sizeLine) ∧ R (List.replicate k.toNat xs).flatten
  | _ => False
theorem v_repM {ml : M (List D)} {mb : M D} : repM ml mb Rl = ml fun xs => xs.length ≤ sizeLine ∧ mb (repK xs Rl) := (rfl)
theorem v_repK {xs : List D} : repK xs Rl (.int i) = ((-(2 ^ 63) ≤ i ∧ i < 2 ^ 63 ∧ xs.length * i.toNat ≤ sizeLine) ∧ Rl (List.replicate i.toNat xs).flatten) := (rfl)
theorem v_addI : addG own (.int i) (.int j) R = R (.int (i + j)) := (rfl)
theorem v_addL : addG own (.lst a) (.lst b) R = (a.length + b.length ≤ sizeLine ∧ R (.lst (a ++ b))) := (rfl)
theorem v_subI : subG own (.int i) (.int j) R = R (.int (i - j)) := (rfl)
theorem v_mulI : mulG own (.int i) (.int j) R = (CMulX i j ∧ R (.int (i * j))) := (rfl)
theorem v_mulL : mulG own (.lst a) (.int j) R = ((-(2 ^ 63) ≤ j ∧ j < 2 ^ 63 ∧ a.length * j.toNat ≤ sizeLine) ∧ R (.lst (List.replicate j.toNat a).flatten)) := (rfl)
theorem v_modI : modG (.int i) (.int j) R = (j ≠ 0 ∧ R (.int (i.fmod j))) := (rfl)
theorem v_powI : powG (.int i) (.int j) R = ((0 ≤ j ∧ j ≤ 1000000 ∧ i.natAbs < 2 ^ 64) ∧ R (.int (i ^ j.toNat))) := (rfl)
theorem v_fdivI : fdivG (.int i) (.int j) R = ((j ≠ 0 ∧ NP i j) ∧ R (.int (i.fdiv j))) := (rfl)
theorem v_ltI : ltG (.int i) (.int j) R = R (.bl (decide (i < j))) := (rfl)
theorem v_leI : leG (.int i) (.int j) R = R (.bl (decide (i ≤ j))) := (rfl)
theorem v_gtI : gtG (.int i) (.int j) R = R (.bl (decide (j < i))) := (rfl)
theorem v_geI : geG (.int i) (.int j) R = R (.bl (decide (j ≤ i))) := (rfl)
theorem v_negI : negG own1 (.int i) R = R (.int (-i)) := (rfl)
theorem v_truB {k : Bool} : tru (.bl k) Rb = Rb k := (rfl)
theorem v_truI : tru (.int i) Rb = Rb (i != 0) := (rfl)
theorem v_truL : tru (.lst a) Rb = Rb (!a.isEmpty) := (rfl)
theorem v_truT : tru (.tup a) Rb = Rb (!a.isEmpty) := (rfl)
theorem v_truN : tru .non Rb = Rb false := (rfl)
theorem v_ixL : ixG (.lst a) (.int i) R = ∃ x, atI a i = some x ∧ R x := (rfl)
theorem v_ixT : ixG (.tup a) (.int i) R = ∃ x, atI a i = some x ∧ R x := (rfl)
theorem v_lenL : lenF [.lst a] R = R (.int (a.length : Nat)) := (rfl)
theorem v_lenT : lenF [.tup a] R = R (.int (a.length : Nat)) := (rfl)
theorem v_abs : absF [.int i] R = R (.int (if i < 0 then -i else i)) := (rfl)
theorem v_max : maxF [.int i, .int j] R = R (.int (if j > i then j else i)) := (rfl)
theorem v_min : minF [.int i, .int j] R = R (.int (if j < i then j else i)) := (rfl)
theorem v_int : intF [.int i] R = R (.int i) := (rfl)
theorem v_sum : sumF [.lst a] R = ∃ ns, intsOf a = some ns ∧ R (.int ns.sum) := (rfl)
theorem v_all : allF [.lst a] R = ∃ ns, blsOf a = some ns ∧ R (.bl (ns.all id)) := (rfl)
theorem v_any : anyF [.lst a] R = ∃ ns, blsOf a = some ns ∧ R (.bl (ns.any id)) := (rfl)
theorem v_gcd : gcdF [.int i, .int j] R = R (.int (Int.gcd i j : Nat)) := (rfl)
theorem v_lcm : lcmF [.int i, .int j] R = ((Lc i ∧ Lc j) ∧ R (.int (Nat.lcm i.natAbs j.natAbs : Nat))) := (rfl)
theorem v_listL : listF [.lst a] R = R (.lst a) := (rfl)
theorem v_listT : listF [.tup a] R = R (.lst a) := (rfl)
theorem v_tupleL : tupleF [.lst a] R = R (.tup a) := (rfl)
theorem v_tupleT : tupleF [.tup a] R = R (.tup a) := (rfl)
theorem v_eqI : eqT s n (.int i) (.int j) R = R (.bl (i == j)) := (rfl)
theorem v_neI : neT s n (.int i) (.int j) R = R (.bl (!(i == j))) := (rfl)
theorem v_eqS : eqT s n (.str x) (.str y) R = R (.bl (x == y)) := (rfl)
theorem v_neS : neT s n (.str x) (.str y) R = R (.bl (!(x == y))) := (rfl)
theorem v_eqL : eqT s n (.lst a) (.lst b) R = eqL (eqD s n) a b fun k => R (.bl k) := (rfl)
theorem v_neL : neT s n (.lst a) (.lst b) R = eqL (eqD s n) a b fun k => R (.bl (!k)) := (rfl)
theorem v_un2 {k : D → D → M α} {x y : D} {R : α → Prop} : un2 k (.tup [x, y]) R = k x y R := (rfl)
theorem v_un2F {S : Type} {f : D → D → S → (S → Prop) → (S → Prop) → Prop} {x y : D} {s : S} {nx bk : S → Prop} : un2F f (.tup [x, y]) s nx bk = f x y s nx bk := (rfl)
theorem v_unP {k : List D → Prop} : unP n k (.tup a) = (a.length = n ∧ k a) := (rfl)
theorem v_unPL {k : List D → Prop} : unP n k (.lst a) = (a.length = n ∧ k a) := (rfl)
theorem v_unT {k : List D → Prop} : unT n k (.tup a) = (a.length = n ∧ k a) := (rfl)
theorem v_itemsK {l : List Int} : itemsG (.knw l) Rl = Rl (l.map .int) := (rfl)
theorem v_lenK {l : List Int} : lenF [.knw l] R = R (.int (l.length : Nat)) := (rfl)
theorem v_l2 {k : D → D → Prop} {x y : D} : l2 k [x, y] = k x y := (rfl)
theorem v_l3 {k : D → D → D → Prop} {x y z : D} : l3 k [x, y, z] = k x y z := (rfl)
theorem v_l4 {k : D → D → D → D → Prop} {x y z w : D} : l4 k [x, y, z, w] = k x y z w := (rfl)
theorem v_range1 : range1G [.int i] Rl = ((-(2 ^ 62) ≤ i ∧ i < 2 ^ 62) ∧ Rl ((List.range i.toNat).map fun k => .int (k : Nat))) := (rfl)
theorem v_range2 : range2G [.int i, .int j] Rl = ((-(2 ^ 62) ≤ i ∧ i < 2 ^ 62 ∧ -(2 ^ 62) ≤ j ∧ j < 2 ^ 62) ∧ Rl ((List.range (j - i).toNat).map fun k => .int (i + (k : Nat)))) := (rfl)
theorem v_enum : enumG [.lst a] Rl = Rl (a.zipIdx.map fun x => .tup [.int (x.2 : Nat), x.1]) := (rfl)
theorem v_zip : zipG [.lst a, .lst b] Rl = Rl ((a.zip b).map fun x => .tup [x.1, x.2]) := (rfl)
theorem v_zipT : zipG [.tup a, .tup b] Rl = Rl ((a.zip b).map fun x => .tup [x.1, x.2]) := (rfl)
theorem v_isi {ts : List Ty} {d : D} : isiG ts d R = (plainD d = true ∧ R (.bl (ts.any fun t => isT t d))) := (rfl)
theorem v_fld {c i : Nat} {c' : Nat} : fldI c i (.ins c' a) R = (c' = c ∧ ∃ x, a[i]? = some x ∧ R x) := (rfl)
theorem v_mkM {c : Nat} {s : List D → M (List D)} {dds ds : List D} : mkM c s dds ds R = s (ds ++ dds) fun fl => R (.ins c fl) := (rfl)
theorem v_mkF {c : Nat} {s : List D → M (List D)} {dds ds : List D} : mkF c s dds ds R = s (ds ++ dds) fun fl => flats fl ≠ none ∧ R (.ins c fl) := (rfl)
theorem v_methM {c : Nat} {s : List D → M D} {mo : M D} {ml : M (List D)} : methM c s mo ml R = mo fun d => (∃ l, d = .ins c l) ∧ ml fun ds => s (d :: ds) R := (rfl)
theorem v_propM {c : Nat} {s : List D → M D} {d : D} : propM c s d R = ((∃ l, d = .ins c l) ∧ s [d] R) := (rfl)
theorem v_flatM {m : M D} : flatM m R = m fun d => flatD d ≠ none ∧ R d := (rfl)
theorem v_appM {m : M D} {k : List D → Prop} : appM a m k = m fun d => a.length < sizeLine ∧ k (a ++ [d]) := (rfl)
theorem v_popM {k : List D → Prop} : popM a k = (a ≠ [] ∧ k a.dropLast) := (rfl)
def extK (l : List D) (k : List D → Prop) : D → Prop
  | .lst r => l.length + r.length ≤ sizeLine ∧ k (l ++ r)
  | _ => False
theorem v_extM {m : M D} {k : List D → Prop} : extM a m k = m (extK a k) := (rfl)
theorem v_extK {k : List D → Prop} : extK a k (.lst b) = (a.length + b.length ≤ sizeLine ∧ k (a ++ b)) := (rfl)
def storeK (l : List D) (d : D) (k : List D → Prop) : D → Prop
  | .int z => ∃ j, ixN l.length z = some j ∧ k (l.set j d)
  | _ => False
theorem v_storeM {m mj : M D} {k : List D → Prop} : storeM a m mj k = m fun d => mj (storeK a d k) := (rfl)
theorem v_storeK {d : D} {k : List D → Prop} : storeK a d k (.int i) = ∃ j, ixN a.length i = some j ∧ k (a.set j d) := (rfl)
theorem v_parOM {ml : M (List D)} {mb : M D} {k : List D → D → Prop} : parOM ml mb k = ml fun l => mb fun d => k l d := (rfl)
theorem v_repr {own : OwnT} {d : D} : reprF own n [d] R = ∃ t, txtD own n d = some t ∧ t.length ≤ sizeLine ∧ R (.str t) := (rfl)
theorem v_isB {k l : Bool} : isBG (.bl k) (.bl l) R = R (.bl (k == l)) := (rfl)
theorem v_notB {k l : Bool} : notBG (.bl k) (.bl l) R = R (.bl (!(k == l))) := (rfl)
end
/-! ### loops, lists made item by item -/
/-- over the images of xs -/
theorem forC_map {S β : Type} {f : D → S → (S → Prop) → (S → Prop) → Prop} {k : S → Prop} {e : β → D} (I : List β → S → Prop) (s0 : S) : ∀ (xs : List β), I [] s0 → (∀ (ys : List β) (x : β) (zs : List β) s nx, xs = ys ++ x :: zs → I ys s → (∀ s', I (ys ++ [x]) s' → nx s') → f (e x) s nx k) → (∀ s, I xs s → k s) → forC f k (xs.map e) s0 := by
  have main : ∀ (zs ys : List β) (s : S), I ys s → (∀ (ys' : List β) (x : β) (zs' : List β) s nx, ys ++ zs = ys' ++ x :: zs' → I ys' s → (∀ s', I (ys' ++ [x]) s' → nx s') → f (e x) s nx k) → (∀ s, I (ys ++ zs) s → k s) → forC f k (zs.map e) s := by
    intro zs
    induction zs with
    | nil =>
      intro ys s h _ fin
      rw [List.append_nil] at fin
      exact fin s h
    | cons x zs ih =>
      intro ys s h step fin
      refine step ys x zs s _ rfl h fun s' hs' => ih (ys ++ [x]) s' hs' (fun ys' x' zs' s nx e => step ys' x' zs' s nx (by rw [← e, List.append_assoc]; rfl)) fun s hs => fin s (by rw [List.append_assoc] at hs; exact hs)
  intro xs h step fin
  exact main xs [] s0 h step fin
theorem whC_ind {S : Type} {c : S → M Bool} {f : S → (S → Prop) → (S → Prop) → Prop} {k : S → Prop} (I : S → Prop) (μ : S → Nat) (s0 : S) (h0 : I s0) (step : ∀ s nx, I s → (∀ s', I s' → μ s' < μ s → nx s') → c s fun b => ite2 b (f s nx k) (k s)) : whC c f k s0 := by
  have main : ∀ (n : Nat) (s : S), I s → μ s < n → loopC c f k n s := by
    intro n
    induction n with
    | zero => intro s _ h; exact absurd h (Nat.not_lt_zero _)
    | succ n ih =>
      intro s hs hn
      exact step s _ hs fun s' hs' hm => ih s' hs' (by omega)
  exact ⟨μ s0 + 1, main _ s0 h0 (Nat.lt_succ_self _)⟩
theorem mapD_map {β : Type} {f : D → M D} {e φ : β → D} : ∀ {xs : List β} {R : List D → Prop}, (∀ x ∈ xs, ∀ R' : D → Prop, R' (φ x) → f (e x) R') → R (xs.map φ) → mapD f (xs.map e) R
  | [], _, _, h => h
  | x :: xs, R, hf, h => hf x List.mem_cons_self _ (mapD_map (xs := xs) (fun x hx => hf x (List.mem_cons_of_mem _ hx)) h)
/-- item by item a value of which Q holds -/
inductive All2 {β γ : Type} (Q : β → γ → Prop) : List β → List γ → Prop
  | nil : All2 Q [] []
  | cons {x : β} {y : γ} {xs : List β} {ys : List γ} (h : Q x y) (t : All2 Q xs ys) : All2 Q (x :: xs) (y :: ys)
theorem All2.len {β γ : Type} {Q : β → γ → Prop} : ∀ {xs : List β} {ys : List γ}, All2 Q xs ys → xs.length = ys.length
  | _, _, .nil => rfl
  | _, _, .cons _ t => congrArg Nat.succ t.len
theorem mapD_all {β : Type} {f : D → M D} {e : β → D} {Q : β → D → Prop} : ∀ {xs : List β} {R : List D → Prop}, (∀ x ∈ xs, ∀ R' : D → Prop, (∀ y, Q x y → R' y) → f (e x) R') → (∀ ys, All2 Q xs ys → R ys) → mapD f (xs.map e) R
  | [], _, _, h => h [] .nil
  | x :: xs, R, hf, h => hf x List.mem_cons_self _ fun y hy => mapD_all (xs := xs) (fun x hx => hf x (List.mem_cons_of_mem _ hx)) fun ys hys => h (y :: ys) (.cons hy hys)
theorem sz {n : Nat} (h : n ≤ 10000 := by decide) : n ≤ sizeLine := Nat.le_trans h (by decide)
theorem intsOf_map : ∀ (l : List Int), intsOf (l.map .int) = some l
  | [] => rfl
  | i :: l => by
    rw [List.map_cons]
    unfold intsOf
    rw [intsOf_map l]
    rfl
theorem blsOf_map : ∀ (l : List Bool), blsOf (l.map .bl) = some l
  | [] => rfl
  | i :: l => by
    rw [List.map_cons]
    unfold blsOf
    rw [blsOf_map l]
    rfl
end Uv
local macro_rules | `(tactic| rfl') => `(tactic| try simp only [↓Uv.v_op2, ↓Uv.v_op1, ↓Uv.v_opN, ↓Uv.v_rt, ↓Uv.v_asks, ↓Uv.v_lcons, ↓Uv.v_lnil, ↓Uv.v_tst, ↓Uv.v_tstK, ↓Uv.v_truM, ↓Uv.v_notM, ↓Uv.v_blM, ↓Uv.v_andM, ↓Uv.v_orM, ↓Uv.v_andV, ↓Uv.v_orV, ↓Uv.v_iteM, ↓Uv.v_t, ↓Uv.v_f, ↓Uv.v_partM, ↓Uv.v_partK, ↓Uv.v_noPart, ↓Uv.v_slM, ↓Uv.v_slice, ↓Uv.v_rev, ↓Uv.v_walkM, ↓Uv.v_itemsM, ↓Uv.v_itemsL, ↓Uv.v_itemsT, ↓Uv.v_lstM, ↓Uv.v_tupM, ↓Uv.v_fitM, ↓Uv.v_starM, ↓Uv.v_lcM, ↓Uv.v_lcIfM, ↓Uv.v_repM, ↓Uv.v_repK, ↓Uv.v_addI, ↓Uv.v_addL, ↓Uv.v_subI, ↓Uv.v_mulI, ↓Uv.v_mulL, ↓Uv.v_modI, ↓Uv.v_powI, ↓Uv.v_fdivI, ↓Uv.v_ltI, ↓Uv.v_leI, ↓Uv.v_gtI, ↓Uv.v_geI, ↓Uv.v_negI, ↓Uv.v_truB, ↓Uv.v_truI, ↓Uv.v_truL, ↓Uv.v_truT, ↓Uv.v_truN, ↓Uv.v_ixL, ↓Uv.v_ixT, ↓Uv.v_lenL, ↓Uv.v_lenT, ↓Uv.v_abs, ↓Uv.v_max, ↓Uv.v_min, ↓Uv.v_int, ↓Uv.v_sum, ↓Uv.v_all, ↓Uv.v_any, ↓Uv.v_gcd, ↓Uv.v_lcm, ↓Uv.v_listL, ↓Uv.v_listT, ↓Uv.v_tupleL, ↓Uv.v_tupleT, ↓Uv.v_eqI, ↓Uv.v_neI, ↓Uv.v_eqS, ↓Uv.v_neS, ↓Uv.v_eqL, ↓Uv.v_neL, ↓Uv.v_un2, ↓Uv.v_un2F, ↓Uv.v_unP, ↓Uv.v_unPL, ↓Uv.v_unT, ↓Uv.v_itemsK, ↓Uv.v_lenK, ↓Uv.v_l2, ↓Uv.v_l3, ↓Uv.v_l4, ↓Uv.v_range1, ↓Uv.v_range2, ↓Uv.v_enum, ↓Uv.v_zip, ↓Uv.v_zipT, ↓Uv.v_isi, ↓Uv.v_fld, ↓Uv.v_mkM, ↓Uv.v_mkF, ↓Uv.v_methM, ↓Uv.v_propM, ↓Uv.v_flatM, ↓Uv.v_appM, ↓Uv.v_popM, ↓Uv.v_extM, ↓Uv.v_extK, ↓Uv.v_storeM, ↓Uv.v_storeK, ↓Uv.v_parOM, ↓Uv.v_repr, ↓Uv.v_isB, ↓Uv.v_notB, List.length_cons, List.length_nil, Nat.zero_add, true_and, and_true])
set_option Elab.async false
set_option linter.all false
set_option maxRecDepth 100000
set_option maxHeartbeats 1000000
namespace Uv
open PySem L2 Inn
/-! ### bounds in bits -/
def Bt (k : Nat) (i : Int) : Prop := i.natAbs < 2 ^ k
theorem Bt.mono {a b : Nat} {i : Int} (h : Bt a i) (hab : a ≤ b) : Bt b i := Nat.lt_of_lt_of_le h (Nat.pow_le_pow_right (by decide) hab)
theorem Bt.zero {k : Nat} : Bt k 0 := Nat.pow_pos (by decide)
theorem Bt.neg {k : Nat} {i : Int} (h : Bt k i) : Bt k (-i) := by
  unfold Bt
  rw [Int.natAbs_neg]
  exact h
theorem Bt.mul {a b : Nat} {i j : Int} (h : Bt a i) (h' : Bt b j) : Bt (a + b) (i * j) := by
  unfold Bt at *
  rw [Int.natAbs_mul, Nat.pow_add]
  exact Nat.mul_lt_mul_of_lt_of_le h (Nat.le_of_lt h') (Nat.pow_pos (by decide))
theorem Bt.add {a : Nat} {i j : Int} (h : Bt a i) (h' : Bt a j) : Bt (a + 1) (i + j) := by
  unfold Bt at *
  have := Int.natAbs_add_le i j
  rw [Nat.pow_succ]
  omega
theorem Bt.sub {a : Nat} {i j : Int} (h : Bt a i) (h' : Bt a j) : Bt (a + 1) (i - j) := by
  rw [Int.sub_eq_add_neg]
  exact h.add h'.neg
theorem Bt.le {a : Nat} {i j : Int} (h : Bt a i) (hj : j.natAbs ≤ i.natAbs) : Bt a j := Nat.lt_of_le_of_lt hj h
theorem Bt.log {k : Nat} {i : Int} (h : Bt k i) (hk : 0 < k) : i.natAbs.log2 < k := by
  by_cases h0 : i.natAbs = 0
  · rw [h0]
    exact Nat.lt_of_le_of_lt (by decide) hk
  · exact (Nat.log2_lt h0).mpr h
theorem intBits_le {k : Nat} {i : Int} (h : Bt k i) (hk : 0 < k) : (Builtin.Int.intBits i : Int) ≤ k := by
  unfold Builtin.Int.intBits
  have := h.log hk
  split <;> omega
theorem Bt.cm {a b : Nat} {i j : Int} (h : Bt a i) (h' : Bt b j) (hab : a + b ≤ 1000000) : CMulX i j := by
  unfold CMulX
  have h1 := intBits_le (h.mono (Nat.le_succ a)) (Nat.succ_pos a)
  have h2 := intBits_le (h'.mono (Nat.le_succ b)) (Nat.succ_pos b)
  omega
theorem Bt.of {k : Nat} {i : Int} (n : Nat) (h : i.natAbs < n) (hn : n ≤ 2 ^ k) : Bt k i := Nat.lt_of_lt_of_le h hn
theorem Bt.sum {k m : Nat} : ∀ {l : List Int}, (∀ i ∈ l, Bt k i) → l.length ≤ m → (l.sum).natAbs ≤ m * 2 ^ k
  | [], _, _ => Nat.zero_le _
  | i :: l, h, hl => by
    have h1 := h i List.mem_cons_self
    rw [List.length_cons] at hl
    have h2 := Bt.sum (m := m - 1) (fun j hj => h j (List.mem_cons_of_mem _ hj)) (by omega)
    have h3 := Int.natAbs_add_le i l.sum
    rw [List.sum_cons]
    have e : m = (m - 1) + 1 := by omega
    rw [e, Nat.add_mul, Nat.one_mul]
    unfold Bt at h1
    omega
/-! ### lists -/
theorem atI_nat' {α : Type} {l : List α} {i : Nat} : atI l (i : Int) = l[i]? := by
  unfold atI ixN
  rw [if_pos (by omega)]
  by_cases h : (i : Int) < (l.length : Int)
  · rw [if_pos h]
    rfl
  · rw [if_neg h]
    rw [List.getElem?_eq_none (by omega)]
    rfl
theorem atI_of {α : Type} {l : List α} {i : Int} {j : Nat} {x : α} (h : i = j) (e : l[j]? = some x) : atI l i = some x := by
  rw [h, atI_nat']
  exact e
theorem atI_last {α : Type} {l : List α} (h : l ≠ []) : atI l (-1) = l[l.length - 1]? := by
  have := List.length_pos_iff.mpr h
  unfold atI ixN
  rw [if_neg (by omega), if_pos (by omega)]
  show l[((-1 : Int) + l.length).toNat]? = _
  congr 1
  omega
theorem cut_to {α : Type} {l : List α} {n : Nat} : cut l none (some (n : Int)) = l.take n := by
  unfold cut
  rw [HT.sIx_none, HT.sIx_nat, List.drop_zero, Nat.sub_zero]
  by_cases h : n ≤ l.length
  · rw [Nat.min_eq_left h]
  · rw [Nat.min_eq_right (by omega), List.take_length, List.take_of_length_le (by omega)]
theorem ixN_nat {n i : Nat} (h : i < n) : ixN n (i : Int) = some i := by
  unfold ixN
  rw [if_pos (by omega), if_pos (by omega)]
  rfl
/-! ### integers, rationals as data -/
abbrev iL (l : List Int) : D := .lst (l.map .int)
abbrev encR (q : Rat) : D := .ins 0 [.int q.num, .int q.den]
abbrev encP (q : Rat) : D := .tup [.int q.num, .int q.den]
/-- a NUMBER -/
inductive Nu : D → Rat → Prop
  | int {q : Rat} (h : q.den = 1) : Nu (.int q.num) q
  | rat {q : Rat} : Nu (encR q) q
theorem iL_get {l : List Int} {i : Nat} {a : Int} (h : l[i]? = some a) : (l.map D.int)[i]? = some (.int a) := by
  rw [List.getElem?_map, h]
  rfl
def tlen {α : Type} (z : α → Bool) (l : List α) : Nat → Nat
  | 0 => 0
  | n + 1 => match l[n]? with
    | some a => if z a = true then tlen z l n else n + 1
    | none => n + 1
theorem tlen_0 {α : Type} {z : α → Bool} {l : List α} : tlen z l 0 = 0 := rfl
theorem tlen_s {α : Type} {z : α → Bool} {l : List α} {n : Nat} : tlen z l (n + 1) = match l[n]? with
  | some a => if z a = true then tlen z l n else n + 1
  | none => n + 1 := rfl
/-- without the z's at the end -/
def trimZ {α : Type} (z : α → Bool) (l : List α) : List α := l.take (tlen z l l.length)
abbrev trim (l : List Int) : List Int := trimZ (· == 0) l
abbrev trimQ (l : List Rat) : List Rat := trimZ (fun q => q.num == 0) l
theorem tlen_le {α : Type} {z : α → Bool} {l : List α} : ∀ n, tlen z l n ≤ n
  | 0 => Nat.le_refl _
  | n + 1 => by
    unfold tlen
    split
    · split
      · exact Nat.le_succ_of_le (tlen_le n)
      · exact Nat.le_refl _
    · exact Nat.le_refl _
theorem trimZ_len {α : Type} {z : α → Bool} {l : List α} : (trimZ z l).length = tlen z l l.length := by
  unfold trimZ
  rw [List.length_take, Nat.min_eq_left (tlen_le _)]
theorem trimZ_map {α β : Type} {z : α → Bool} {y : β → Bool} {f : α → β} {l : List α} (h : ∀ a ∈ l, y (f a) = z a) : trimZ y (l.map f) = (trimZ z l).map f := by
  have e : ∀ n, tlen y (l.map f) n = tlen z l n := by
    intro n
    induction n with
    | zero => rfl
    | succ n ih =>
      unfold tlen
      rw [List.getElem?_map]
      cases hl : l[n]? with
      | none => rfl
      | some a =>
        dsimp only [Option.map]
        rw [h a (List.mem_of_getElem? hl), ih]
  unfold trimZ
  rw [List.length_map, e, List.map_take]
theorem tlen_zero {α : Type} {z : α → Bool} {l : List α} : ∀ {n i : Nat} {a : α}, tlen z l n ≤ i → i < n → l[i]? = some a → z a = true
  | n + 1, i, a, h, hi, e => by
    unfold tlen at h
    cases hl : l[n]? with
    | none =>
      rw [hl] at h
      dsimp only at h
      omega
    | some b =>
      rw [hl] at h
      dsimp only at h
      by_cases hz : z b = true
      · rw [if_pos hz] at h
        by_cases hin : i = n
        · subst hin
          rw [hl] at e
          cases e
          exact hz
        · exact tlen_zero h (by omega) e
      · rw [if_neg hz] at h
        omega
/-- its last item is no z -/
def Trimd {α : Type} (z : α → Bool) (l : List α) : Prop := ∀ a, l.getLast? = some a → z a = false
theorem trimZ_trimd {α : Type} {z : α → Bool} {l : List α} : Trimd z (trimZ z l) := by
  have key : ∀ n, n ≤ l.length → Trimd z (l.take (tlen z l n)) := by
    intro n
    induction n with
    | zero => intro _ a h; simp [tlen] at h
    | succ n ih =>
      intro hn a h
      have lt : n < l.length := by omega
      unfold tlen at h
      rw [List.getElem?_eq_getElem lt] at h
      dsimp only at h
      by_cases hz : z l[n] = true
      · rw [if_pos hz] at h
        exact ih (by omega) a h
      · rw [if_neg hz] at h
        have e : l.take (n + 1) = l.take n ++ [l[n]] := by rw [List.take_add_one, List.getElem?_eq_getElem lt]; rfl
        rw [e, List.getLast?_concat] at h
        cases h
        exact Bool.eq_false_iff.mpr hz
  exact key _ (Nat.le_refl _)
theorem trimZ_of {α : Type} {z : α → Bool} {l : List α} (h : Trimd z l) : trimZ z l = l := by
  unfold trimZ
  cases hl : l.length with
  | zero =>
    rw [List.length_eq_zero_iff.mp hl]
    rfl
  | succ n =>
    have lt : n < l.length := by omega
    have e : l.getLast? = some l[n] := by rw [List.getLast?_eq_getElem?, show l.length - 1 = n by omega]; exact List.getElem?_eq_getElem lt
    unfold tlen
    rw [List.getElem?_eq_getElem lt]
    dsimp only
    rw [h _ e, if_neg Bool.false_ne_true, ← hl, List.take_length]
theorem mem_trimZ {α : Type} {z : α → Bool} {l : List α} {a : α} (h : a ∈ trimZ z l) : a ∈ l := List.mem_of_mem_take h
end Uv
set_option Elab.async false
set_option linter.all false
set_option maxRecDepth 100000
set_option maxHeartbeats 1000000
namespace Ml
open PySem L2 Inn Uv
/-- item by item, what is longer stays -/
def zipL {α : Type} (f : α → α → α) : List α → List α → List α
  | [], b => b
  | a, [] => a
  | x :: a, y :: b => f x y :: zipL f a b
theorem zipL_len {α : Type} {f : α → α → α} : ∀ {a b : List α}, (zipL f a b).length = max a.length b.length
  | [], b => by simp [zipL]
  | x :: a, [] => by simp [zipL]
  | x :: a, y :: b => by
    unfold zipL
    rw [List.length_cons, zipL_len (a := a) (b := b), List.length_cons, List.length_cons]
    omega
/-! ### rationals -/
theorem q_num {a : Int} {b : Nat} (hb : b ≠ 0) : ((a : Rat) / (b : Rat)).num = a / (Int.gcd a b : Nat) ∧ ((a : Rat) / (b : Rat)).den = b / Int.gcd a b := by
  have e : (a : Rat) / (b : Rat) = Rat.divInt a b := by rw [Rat.divInt_eq_div]; rfl
  rw [e, Rat.num_divInt, Rat.den_divInt, if_neg (by omega)]
  have s : ((b : Int)).sign = 1 := Int.sign_eq_one_of_pos (by omega)
  rw [s, Int.one_mul, Int.gcd_comm]
  exact ⟨rfl, rfl⟩
theorem q_of (q : Rat) : q = (q.num : Rat) / (q.den : Rat) := by
  have e := Rat.num_divInt_den q
  rw [Rat.divInt_eq_div, Rat.intCast_natCast] at e
  exact e.symm
theorem q_eq0 {q : Rat} : (q.num == 0) = decide (q = 0) := by
  rw [Bool.eq_iff_iff]
  simp [Rat.num_eq_zero]
theorem q_mul {a : Int} {b : Nat} (hb : b ≠ 0) {q : Rat} (h : q = (a : Rat) / (b : Rat)) : q.den ∣ b ∧ q.num * ((b / q.den : Nat) : Int) = a := by
  have hq := q_num (a := a) hb
  rw [← h] at hq
  have g0 : Int.gcd a b ≠ 0 := fun z => hb (by have := (Int.gcd_eq_zero_iff.mp z).2; omega)
  have gd : Int.gcd a b ∣ b := Int.gcd_dvd_natAbs_right a b
  obtain ⟨c, hc⟩ := gd
  have ga : ((Int.gcd a b : Nat) : Int) ∣ a := Int.gcd_dvd_left a b
  obtain ⟨d, hd⟩ := ga
  generalize hg : Int.gcd a b = g at *
  have e1 : q.den = c := by rw [hq.2, hc, Nat.mul_div_cancel_left _ (Nat.pos_of_ne_zero g0)]
  have e2 : q.num = d := by rw [hq.1]; conv => lhs; rw [hd]; rw [Int.mul_ediv_cancel_left _ (by omega)]
  have c0 : c ≠ 0 := fun z => hb (by rw [hc, z]; simp)
  refine ⟨⟨g, by rw [e1, hc, Nat.mul_comm]⟩, ?_⟩
  rw [e1, e2, hc, Nat.mul_div_cancel _ (Nat.pos_of_ne_zero c0), hd]
  exact Int.mul_comm _ _
theorem q_bits {a : Int} {b k : Nat} (hb : b ≠ 0) {q : Rat} (h : q = (a : Rat) / (b : Rat)) (ha : Bt k a) : Bt k q.num := by
  have e := (q_mul hb h).2
  refine ha.le ?_
  rw [← e, Int.natAbs_mul]
  have : 0 < b / q.den := Nat.div_pos (Nat.le_of_dvd (Nat.pos_of_ne_zero hb) (q_mul hb h).1) q.den_pos
  exact Nat.le_mul_of_pos_right _ (by omega)
/-! ### polynomials: lists of rationals -/
/-- all over N, k bits above -/
def Pl (N k : Nat) (qs : List Rat) : Prop := ∀ q ∈ qs, ∃ a : Int, q = (a : Rat) / (N : Rat) ∧ Bt k a
theorem Pl.den {N k : Nat} {qs : List Rat} (h : Pl N k qs) (hN : N ≠ 0) : ∀ q ∈ qs, q.den ∣ N := fun q hq => by
  obtain ⟨a, e, _⟩ := h q hq
  exact (q_mul hN e).1
theorem Pl.num {N k : Nat} {qs : List Rat} (h : Pl N k qs) (hN : N ≠ 0) : ∀ q ∈ qs, Bt k q.num := fun q hq => by
  obtain ⟨a, e, b⟩ := h q hq
  exact q_bits hN e b
theorem Pl.mono {N k k' : Nat} {qs : List Rat} (h : Pl N k qs) (hk : k ≤ k') : Pl N k' qs := fun q hq => by
  obtain ⟨a, e, b⟩ := h q hq
  exact ⟨a, e, b.mono hk⟩
theorem Pl.sub {N k : Nat} {qs rs : List Rat} (h : Pl N k qs) (hs : ∀ q ∈ rs, q ∈ qs) : Pl N k rs := fun q hq => h q (hs q hq)
theorem Pl.app {N k : Nat} {qs rs : List Rat} (h : Pl N k qs) (h' : Pl N k rs) : Pl N k (qs ++ rs) := fun q hq => (List.mem_append.mp hq).elim (h q) (h' q)
abbrev lft (L : Nat) (a : List Int) : List Rat := a.map fun i => ((i : Int) : Rat) / ((L : Nat) : Rat)
/-- the coefficient at k -/
def cf (p : List Rat) (k : Nat) : Rat := (p[k]?).getD 0
theorem cf_nil {k : Nat} : cf [] k = 0 := by simp [cf]
theorem cf_0 {a : Rat} {p : List Rat} : cf (a :: p) 0 = a := by simp [cf]
theorem cf_s {a : Rat} {p : List Rat} {k : Nat} : cf (a :: p) (k + 1) = cf p k := by simp [cf]
theorem cf_ge {p : List Rat} {k : Nat} (h : p.length ≤ k) : cf p k = 0 := by
  unfold cf
  rw [List.getElem?_eq_none h]
  rfl
theorem cf_get {p : List Rat} {k : Nat} {a : Rat} (h : p[k]? = some a) : cf p k = a := by
  unfold cf
  rw [h]
  rfl
theorem cf_map {p : List Rat} {f : Rat → Rat} (h0 : f 0 = 0) {k : Nat} : cf (p.map f) k = f (cf p k) := by
  unfold cf
  rw [List.getElem?_map]
  cases p[k]? with
  | none => exact h0.symm
  | some a => rfl
theorem cf_zipL {f : Rat → Rat → Rat} (h1 : ∀ x, f x 0 = x) (h2 : ∀ x, f 0 x = x) : ∀ (p q : List Rat) (k : Nat), cf (zipL f p q) k = f (cf p k) (cf q k) := by
  intro p
  induction p with
  | nil => intro q k; rw [cf_nil, h2]; rfl
  | cons a p ih =>
    intro q k
    cases q with
    | nil => rw [cf_nil, h1]; rfl
    | cons b q =>
      cases k with
      | zero => rw [cf_0, cf_0]; rfl
      | succ k =>
        rw [cf_s, cf_s]
        exact ih q k
theorem cf_trimZ {p : List Rat} {k : Nat} : cf (trimQ p) k = cf p k := by
  unfold cf trimQ trimZ
  rw [List.getElem?_take]
  split
  · rfl
  · rename_i h
    cases e : p[k]? with
    | none => rfl
    | some a =>
      have := tlen_zero (z := fun q : Rat => q.num == 0) (l := p) (n := p.length) (i := k) (by omega) (List.getElem?_eq_some_iff.mp e).1 e
      rw [q_eq0] at this
      exact (of_decide_eq_true this).symm
abbrev TrQ (p : List Rat) : Prop := Trimd (fun q => q.num == 0) p
theorem TrQ.last {p : List Rat} (h : TrQ p) (hp : p ≠ []) : cf p (p.length - 1) ≠ 0 := by
  intro z
  have e : p.getLast? = some (p.getLast hp) := List.getLast?_eq_getLast _
  have := h _ e
  dsimp only at this
  rw [q_eq0] at this
  apply of_decide_eq_false this
  rw [← z, cf_get (a := p.getLast hp)]
  rw [← e, List.getLast?_eq_getElem?]
/-- polynomials are told by their coefficients -/
theorem poly_ext {p q : List Rat} (hp : TrQ p) (hq : TrQ q) (h : ∀ k, cf p k = cf q k) : p = q := by
  have len : ∀ {p q : List Rat}, TrQ p → (∀ k, cf p k = cf q k) → p.length ≤ q.length := by
    intro p q hp h
    by_cases e : p = []
    · rw [e]; exact Nat.zero_le _
    · have := hp.last e
      rw [h] at this
      have l := List.length_pos_iff.mpr e
      by_cases hl : p.length ≤ q.length
      · exact hl
      · exact absurd (cf_ge (by omega)) this
  have l1 := len hp h
  have l2 := len hq fun k => (h k).symm
  refine List.ext_getElem? fun k => ?_
  by_cases hk : k < p.length
  · have e1 := List.getElem?_eq_getElem hk
    have e2 := List.getElem?_eq_getElem (show k < q.length by omega)
    have := h k
    rw [cf_get e1, cf_get e2] at this
    rw [e1, e2, this]
  · rw [List.getElem?_eq_none (by omega), List.getElem?_eq_none (by omega)]
theorem TrQ.map {p : List Rat} {f : Rat → Rat} (h : TrQ p) (hf : ∀ x, f x = 0 → x = 0) : TrQ (p.map f) := fun a e => by
  rw [List.getLast?_map] at e
  cases hl : p.getLast? with
  | none => rw [hl] at e; cases e
  | some b =>
    rw [hl] at e
    cases e
    have := h b hl
    dsimp only at this ⊢
    rw [q_eq0] at this ⊢
    exact decide_eq_false fun z => of_decide_eq_false this (hf b z)
/-! products -/
def shift (g : Nat → Rat) : Nat → Rat
  | 0 => 0
  | k + 1 => g k
def mulc : List Rat → (Nat → Rat) → Nat → Rat
  | [], _ => fun _ => 0
  | a :: p, g => fun k => a * g k + shift (mulc p g) k
theorem shift_add {g h : Nat → Rat} {k : Nat} : shift (fun k => g k + h k) k = shift g k + shift h k := by
  cases k with
  | zero => show (0 : Rat) = 0 + 0; rw [Rat.add_zero]
  | succ k => rfl
theorem shift_congr {g h : Nat → Rat} (e : ∀ k, g k = h k) {k : Nat} : shift g k = shift h k := by
  cases k with
  | zero => rfl
  | succ k => exact e k
theorem mulc_congr {g h : Nat → Rat} (e : ∀ k, g k = h k) : ∀ {p : List Rat} {k : Nat}, mulc p g k = mulc p h k
  | [], _ => rfl
  | a :: p, k => by
    show a * g k + shift (mulc p g) k = a * h k + shift (mulc p h) k
    rw [e, shift_congr fun k => mulc_congr e (p := p) (k := k)]
/-- as a sum -/
theorem mulc_sum : ∀ {p : List Rat} {g : Nat → Rat} {k : Nat}, mulc p g k = ((List.range p.length).map fun i => if i ≤ k then cf p i * g (k - i) else 0).sum
  | [], _, _ => rfl
  | a :: p, g, k => by
    show a * g k + shift (mulc p g) k = _
    rw [List.length_cons, List.range_succ_eq_map, List.map_cons, List.sum_cons, List.map_map, if_pos (Nat.zero_le _), cf_0, Nat.sub_zero]
    congr 1
    cases k with
    | zero =>
      show (0 : Rat) = _
      have : (List.range p.length).map ((fun i => if i ≤ 0 then cf (a :: p) i * g (0 - i) else 0) ∘ Nat.succ) = (List.range p.length).map fun _ => (0 : Rat) := by
        refine List.map_congr_left fun i _ => ?_
        show (if i + 1 ≤ 0 then cf (a :: p) (i + 1) * g (0 - (i + 1)) else 0) = 0
        exact if_neg (Nat.not_succ_le_zero i)
      rw [this]
      generalize List.range p.length = l
      induction l with
      | nil => rfl
      | cons x l ih => rw [List.map_cons, List.sum_cons, ← ih, Rat.add_zero]
    | succ k =>
      show mulc p g k = _
      rw [mulc_sum]
      congr 1
      refine List.map_congr_left fun i _ => ?_
      show _ = (if i + 1 ≤ k + 1 then cf (a :: p) (i + 1) * g (k + 1 - (i + 1)) else 0)
      rw [cf_s, Nat.add_sub_add_right]
      by_cases h : i ≤ k
      · rw [if_pos h, if_pos (by omega)]
      · rw [if_neg h, if_neg (by omega)]
def pmul : List Rat → List Rat → List Rat
  | [], _ => []
  | a :: p, q => zipL (· + ·) (q.map (a * ·)) (0 :: pmul p q)
theorem cf_add {p q : List Rat} {k : Nat} : cf (zipL (· + ·) p q) k = cf p k + cf q k := cf_zipL (fun x => Rat.add_zero x) (fun x => Rat.zero_add x) p q k
theorem cf_pmul : ∀ {p q : List Rat} {k : Nat}, cf (pmul p q) k = mulc p (cf q) k
  | [], q, k => cf_nil
  | a :: p, q, k => by
    show cf (zipL (· + ·) (q.map (a * ·)) (0 :: pmul p q)) k = a * cf q k + shift (mulc p (cf q)) k
    rw [cf_add, cf_map (Rat.mul_zero a)]
    congr 1
    cases k with
    | zero => rw [cf_0]; rfl
    | succ k => rw [cf_s, cf_pmul]; rfl
/-! worths -/
def pev : List Rat → Rat → Rat
  | [], _ => 0
  | a :: p, x => a + x * pev p x
theorem pev_zero {x : Rat} : ∀ {p : List Rat}, (∀ k, cf p k = 0) → pev p x = 0
  | [], _ => rfl
  | a :: p, h => by
    have h0 := h 0
    rw [cf_0] at h0
    show a + x * pev p x = 0
    rw [pev_zero fun k => by have := h (k + 1); rw [cf_s] at this; exact this, h0]
    grind
theorem pev_congr {x : Rat} : ∀ {p q : List Rat}, (∀ k, cf p k = cf q k) → pev p x = pev q x
  | [], q, h => (pev_zero fun k => by rw [← h k, cf_nil]).symm
  | a :: p, [], h => pev_zero fun k => by rw [h k, cf_nil]
  | a :: p, b :: q, h => by
    have h0 := h 0
    rw [cf_0, cf_0] at h0
    show a + x * pev p x = b + x * pev q x
    rw [h0, pev_congr (p := p) (q := q) fun k => by have := h (k + 1); rw [cf_s, cf_s] at this; exact this]
theorem pev_add {x : Rat} : ∀ {p q : List Rat}, pev (zipL (· + ·) p q) x = pev p x + pev q x
  | [], q => by show pev q x = 0 + pev q x; grind
  | a :: p, [] => by show pev (a :: p) x = pev (a :: p) x + 0; grind
  | a :: p, b :: q => by
    show (a + b) + x * pev (zipL (· + ·) p q) x = (a + x * pev p x) + (b + x * pev q x)
    rw [pev_add]
    grind
theorem pev_smul {x c : Rat} : ∀ {p : List Rat}, pev (p.map (c * ·)) x = c * pev p x
  | [] => by show (0 : Rat) = c * 0; grind
  | a :: p => by
    show c * a + x * pev (p.map (c * ·)) x = c * (a + x * pev p x)
    rw [pev_smul]
    grind
theorem pev_pmul {x : Rat} : ∀ {p q : List Rat}, pev (pmul p q) x = pev p x * pev q x
  | [], q => by show (0 : Rat) = 0 * pev q x; grind
  | a :: p, q => by
    show pev (zipL (· + ·) (q.map (a * ·)) (0 :: pmul p q)) x = (a + x * pev p x) * pev q x
    rw [pev_add, pev_smul]
    show a * pev q x + (0 + x * pev (pmul p q) x) = _
    rw [pev_pmul]
    grind
/-! derivatives -/
end Ml
set_option Elab.async false
set_option linter.all false
set_option maxRecDepth 100000
set_option maxHeartbeats 1000000
namespace Ml
open PySem L2 Inn Uv Sl
theorem m_trimmed {l : List Int} {R : D → Prop} (h : R (iL (trim l))) : s_trimmed [iL l] R := by
  unfold s_trimmed
  rfl'
  refine whC_ind (fun d => ∃ n : Nat, d = .int n ∧ n ≤ l.length ∧ tlen (· == 0) l n = tlen (· == 0) l l.length) (fun d => match d with | .int i => i.toNat | _ => 0) _ ⟨l.length, by rw [List.length_map], Nat.le_refl _, rfl⟩ ?_
  rintro d nx ⟨n, rfl, hn, ht⟩ hnx
  rfl'
  cases n with
  | zero =>
    have e : decide ((0 : Int) < ((0 : Nat) : Int)) = false := by decide
    rw [e]
    rfl'
    rw [cut_to, ← List.map_take]
    rw [tlen_0] at ht
    have e2 : trim l = l.take 0 := by unfold trim trimZ; rw [← ht]
    rw [← e2]
    exact h
  | succ n =>
    have lt : n < l.length := by omega
    have e : decide ((0 : Int) < ((n + 1 : Nat) : Int)) = true := decide_eq_true (by omega)
    rw [e]
    rfl'
    refine ⟨.int l[n], atI_of (j := n) (by omega) (iL_get (List.getElem?_eq_getElem lt)), ?_⟩
    rfl'
    rw [tlen_s, List.getElem?_eq_getElem lt] at ht
    dsimp only at ht
    by_cases hz : (l[n] == 0) = true
    · rw [hz]
      rfl'
      rw [if_pos hz] at ht
      refine hnx _ ⟨n, ?_, by omega, ht⟩ ?_
      · congr 1
        omega
      · show (((n + 1 : Nat) : Int) - 1).toNat < ((n + 1 : Nat) : Int).toNat
        omega
    · rw [if_neg hz] at ht
      rw [Bool.eq_false_iff.mpr hz]
      rfl'
      rw [cut_to, ← List.map_take]
      have e2 : trim l = l.take (n + 1) := by unfold trim trimZ; rw [← ht]
      rw [← e2]
      exact h
theorem m_negated {l : List Int} {R : D → Prop} (hl : l.length ≤ sizeLine) (h : R (iL (l.map fun a => -a))) : s_negated [iL l] R := by
  unfold s_negated
  rfl'
  refine ⟨by rw [List.length_map]; exact hl, mapD_map (φ := fun a => D.int (-a)) (fun x _ R' h => by rfl'; exact h) ?_⟩
  have e : l.map (fun a => D.int (-a)) = (l.map fun a => -a).map .int := by rw [List.map_map]; rfl
  rw [e]
  exact h
theorem m_scaled_by {l : List Int} {n : Int} {a b : Nat} {R : D → Prop} (hl : l.length ≤ sizeLine) (hn : Bt a n) (hb : ∀ i ∈ l, Bt b i) (hab : a + b ≤ 1000000) (h : R (iL (if n = 0 then [] else l.map fun i => n * i))) : s_scaled_by [iL l, .int n] R := by
  unfold s_scaled_by
  rfl'
  by_cases hz : n = 0
  · subst hz
    rw [if_pos rfl] at h
    have e : (!((0 : Int) == 0)) = false := rfl
    rw [e]
    rfl'
    exact ⟨sz, h⟩
  · rw [if_neg hz] at h
    have e : (!(n == 0)) = true := by simp [hz]
    rw [e]
    rfl'
    refine ⟨by rw [List.length_map]; exact hl, mapD_map (φ := fun i => D.int (n * i)) (fun x hx R' h => by rfl'; exact ⟨hn.cm (hb x hx) hab, h⟩) ?_⟩
    have e : l.map (fun i => D.int (n * i)) = (l.map fun i => n * i).map .int := by rw [List.map_map]; rfl
    rw [e]
    exact h
theorem zip_ints {a b : List Int} : ((a.map D.int).zip (b.map D.int)).map (fun x => D.tup [x.1, x.2]) = (a.zip b).map fun p => D.tup [.int p.1, .int p.2] := by
  rw [List.zip_map, List.map_map]
  rfl
end Ml
set_option Elab.async false
set_option linter.all false
set_option maxRecDepth 100000
set_option maxHeartbeats 1000000
namespace Ml
open PySem L2 Inn Uv Sl
/-! kinds -/
theorem it_int_int {i : Int} : isT .int (.int i) = true := rfl
theorem it_int_bl {b : Bool} : isT .int (.bl b) = true := rfl
theorem it_int_non  : isT .int (.non) = false := rfl
theorem it_int_str {x : Str} : isT .int (.str x) = false := rfl
theorem it_int_lst {l : List D} : isT .int (.lst l) = false := rfl
theorem it_int_tup {l : List D} : isT .int (.tup l) = false := rfl
theorem it_int_dct {ks : List Key} {l : List D} : isT .int (.dct ks l) = false := rfl
theorem it_int_ins {m : Nat} {l : List D} : isT .int (.ins m l) = false := rfl
theorem it_bool_int {i : Int} : isT .bool (.int i) = false := rfl
theorem it_bool_bl {b : Bool} : isT .bool (.bl b) = true := rfl
theorem it_bool_non  : isT .bool (.non) = false := rfl
theorem it_bool_str {x : Str} : isT .bool (.str x) = false := rfl
theorem it_bool_lst {l : List D} : isT .bool (.lst l) = false := rfl
theorem it_bool_tup {l : List D} : isT .bool (.tup l) = false := rfl
theorem it_bool_dct {ks : List Key} {l : List D} : isT .bool (.dct ks l) = false := rfl
theorem it_bool_ins {m : Nat} {l : List D} : isT .bool (.ins m l) = false := rfl
theorem it_str_int {i : Int} : isT .str (.int i) = false := rfl
theorem it_str_bl {b : Bool} : isT .str (.bl b) = false := rfl
theorem it_str_non  : isT .str (.non) = false := rfl
theorem it_str_str {x : Str} : isT .str (.str x) = true := rfl
theorem it_str_lst {l : List D} : isT .str (.lst l) = false := rfl
theorem it_str_tup {l : List D} : isT .str (.tup l) = false := rfl
theorem it_str_dct {ks : List Key} {l : List D} : isT .str (.dct ks l) = false := rfl
theorem it_str_ins {m : Nat} {l : List D} : isT .str (.ins m l) = false := rfl
theorem it_list_int {i : Int} : isT .list (.int i) = false := rfl
theorem it_list_bl {b : Bool} : isT .list (.bl b) = false := rfl
theorem it_list_non  : isT .list (.non) = false := rfl
theorem it_list_str {x : Str} : isT .list (.str x) = false := rfl
theorem it_list_lst {l : List D} : isT .list (.lst l) = true := rfl
theorem it_list_tup {l : List D} : isT .list (.tup l) = false := rfl
theorem it_list_dct {ks : List Key} {l : List D} : isT .list (.dct ks l) = false := rfl
theorem it_list_ins {m : Nat} {l : List D} : isT .list (.ins m l) = false := rfl
theorem it_tuple_int {i : Int} : isT .tuple (.int i) = false := rfl
theorem it_tuple_bl {b : Bool} : isT .tuple (.bl b) = false := rfl
theorem it_tuple_non  : isT .tuple (.non) = false := rfl
theorem it_tuple_str {x : Str} : isT .tuple (.str x) = false := rfl
theorem it_tuple_lst {l : List D} : isT .tuple (.lst l) = false := rfl
theorem it_tuple_tup {l : List D} : isT .tuple (.tup l) = true := rfl
theorem it_tuple_dct {ks : List Key} {l : List D} : isT .tuple (.dct ks l) = false := rfl
theorem it_tuple_ins {m : Nat} {l : List D} : isT .tuple (.ins m l) = false := rfl
theorem it_dict_int {i : Int} : isT .dict (.int i) = false := rfl
theorem it_dict_bl {b : Bool} : isT .dict (.bl b) = false := rfl
theorem it_dict_non  : isT .dict (.non) = false := rfl
theorem it_dict_str {x : Str} : isT .dict (.str x) = false := rfl
theorem it_dict_lst {l : List D} : isT .dict (.lst l) = false := rfl
theorem it_dict_tup {l : List D} : isT .dict (.tup l) = false := rfl
theorem it_dict_dct {ks : List Key} {l : List D} : isT .dict (.dct ks l) = true := rfl
theorem it_dict_ins {m : Nat} {l : List D} : isT .dict (.ins m l) = false := rfl
theorem it_c_int {i : Int} {n : Nat} : isT (.c n) (.int i) = false := rfl
theorem it_c_bl {b : Bool} {n : Nat} : isT (.c n) (.bl b) = false := rfl
theorem it_c_non  {n : Nat} : isT (.c n) (.non) = false := rfl
theorem it_c_str {x : Str} {n : Nat} : isT (.c n) (.str x) = false := rfl
theorem it_c_lst {l : List D} {n : Nat} : isT (.c n) (.lst l) = false := rfl
theorem it_c_tup {l : List D} {n : Nat} : isT (.c n) (.tup l) = false := rfl
theorem it_c_dct {ks : List Key} {l : List D} {n : Nat} : isT (.c n) (.dct ks l) = false := rfl
theorem it_c_ins {m : Nat} {l : List D} {n : Nat} : isT (.c n) (.ins m l) = (n == m) := rfl
theorem pl_int {i : Int} : plainD (.int i) = true := rfl
theorem pl_bl {b : Bool} : plainD (.bl b) = true := rfl
theorem pl_non  : plainD (.non) = true := rfl
theorem pl_str {x : Str} : plainD (.str x) = true := rfl
theorem pl_lst {l : List D} : plainD (.lst l) = true := rfl
theorem pl_tup {l : List D} : plainD (.tup l) = true := rfl
theorem pl_dct {ks : List Key} {l : List D} : plainD (.dct ks l) = true := rfl
theorem pl_ins {m : Nat} {l : List D} : plainD (.ins m l) = true := rfl
end Ml
local macro_rules | `(tactic| bv_omega) => `(tactic| try simp only [↓Uv.v_op2, ↓Uv.v_op1, ↓Uv.v_opN, ↓Uv.v_rt, ↓Uv.v_asks, ↓Uv.v_lcons, ↓Uv.v_lnil, ↓Uv.v_tst, ↓Uv.v_tstK, ↓Uv.v_truM, ↓Uv.v_notM, ↓Uv.v_blM, ↓Uv.v_andM, ↓Uv.v_orM, ↓Uv.v_andV, ↓Uv.v_orV, ↓Uv.v_iteM, ↓Uv.v_t, ↓Uv.v_f, ↓Uv.v_truB, ↓Uv.v_truI, ↓Uv.v_truL, ↓Uv.v_truT, ↓Uv.v_isi, List.any_cons, List.any_nil, Bool.or_false, Bool.or_true, Bool.false_or, Bool.true_or, Bool.not_true, Bool.not_false, Nat.beq_refl, BEq.rfl, true_and, and_true, Ml.it_int_int, Ml.it_int_bl, Ml.it_int_non, Ml.it_int_str, Ml.it_int_lst, Ml.it_int_tup, Ml.it_int_dct, Ml.it_int_ins, Ml.it_bool_int, Ml.it_bool_bl, Ml.it_bool_non, Ml.it_bool_str, Ml.it_bool_lst, Ml.it_bool_tup, Ml.it_bool_dct, Ml.it_bool_ins, Ml.it_str_int, Ml.it_str_bl, Ml.it_str_non, Ml.it_str_str, Ml.it_str_lst, Ml.it_str_tup, Ml.it_str_dct, Ml.it_str_ins, Ml.it_list_int, Ml.it_list_bl, Ml.it_list_non, Ml.it_list_str, Ml.it_list_lst, Ml.it_list_tup, Ml.it_list_dct, Ml.it_list_ins, Ml.it_tuple_int, Ml.it_tuple_bl, Ml.it_tuple_non, Ml.it_tuple_str, Ml.it_tuple_lst, Ml.it_tuple_tup, Ml.it_tuple_dct, Ml.it_tuple_ins, Ml.it_dict_int, Ml.it_dict_bl, Ml.it_dict_non, Ml.it_dict_str, Ml.it_dict_lst, Ml.it_dict_tup, Ml.it_dict_dct, Ml.it_dict_ins, Ml.it_c_int, Ml.it_c_bl, Ml.it_c_non, Ml.it_c_str, Ml.it_c_lst, Ml.it_c_tup, Ml.it_c_dct, Ml.it_c_ins, Ml.pl_int, Ml.pl_bl, Ml.pl_non, Ml.pl_str, Ml.pl_lst, Ml.pl_tup, Ml.pl_dct, Ml.pl_ins])
set_option Elab.async false
set_option linter.all false
set_option maxRecDepth 100000
set_option maxHeartbeats 1000000
namespace Ml
open PySem L2 Inn Uv Sl
/-! ### numbers -/
theorem m_int_int {i : Int} {R : D → Prop} (h : R (.bl true)) : s_is_integer [.int i] R := by
  unfold s_is_integer
  bv_omega
  exact h
theorem m_num_yes {d : D} {q : Rat} {R : D → Prop} (hd : Nu d q) (h : R (.bl true)) : s_is_number [d] R := by
  cases hd with
  | int hq =>
    unfold s_is_number
    bv_omega
    exact m_int_int h
  | rat =>
    unfold s_is_number
    bv_omega
    exact h
theorem m_pair {d : D} {q : Rat} {R : D → Prop} (hd : Nu d q) (h : R (encP q)) : s_pair_of [d] R := by
  cases hd with
  | int hq =>
    unfold s_pair_of
    bv_omega
    unfold s_need_number
    bv_omega
    refine m_num_yes (.int hq) ?_
    bv_omega
    rfl'
    have h : R (.tup [.int q.num, .int (q.den : Nat)]) := h
    rw [hq] at h
    exact ⟨sz, h⟩
  | rat =>
    unfold s_pair_of
    bv_omega
    rfl'
    exact ⟨_, rfl, _, rfl, sz, h⟩
end Ml
set_option Elab.async false
set_option linter.all false
set_option maxRecDepth 100000
set_option maxHeartbeats 1000000
namespace Ml
open PySem L2 Inn Uv Sl
/-! ### lists of numbers -/
abbrev encQ (p : List Rat) : D := .lst (p.map encR)
abbrev encPP (p : List Rat) : D := .lst (p.map encP)
abbrev rq (a b : Int) : Rat := Rat.divInt a b
theorem mapD_all2 {β : Type} {Q : D → β → Prop} {f : D → M D} {φ : β → D} : ∀ {ds : List D} {xs : List β} {R : List D → Prop}, All2 Q ds xs → (∀ d x, x ∈ xs → Q d x → ∀ R' : D → Prop, R' (φ x) → f d R') → R (xs.map φ) → mapD f ds R
  | [], _, R, .nil, _, h => h
  | d :: ds, _, R, .cons hd t, hf, h => hf d _ List.mem_cons_self hd _ (mapD_all2 t (fun d x hx => hf d x (List.mem_cons_of_mem _ hx)) h)
abbrev Nus (ds : List D) (qs : List Rat) : Prop := All2 Nu ds qs
theorem nus_r : ∀ {qs : List Rat}, Nus (qs.map encR) qs
  | [] => .nil
  | _ :: _ => .cons .rat nus_r
/-- a list or a tuple -/
inductive Sq : D → List D → Prop
  | l {ds : List D} : Sq (.lst ds) ds
  | t {ds : List D} : Sq (.tup ds) ds
theorem Sq.items {v : D} {ds : List D} {R : List D → Prop} (h : Sq v ds) : itemsG v R = R ds := by cases h <;> rfl
theorem Sq.len {v : D} {ds : List D} {R : D → Prop} (h : Sq v ds) : lenF [v] R = R (.int (ds.length : Nat)) := by cases h <;> rfl
/-! making a Ratio -/
theorem dvd_fdiv {g c : Int} (hg : g ≠ 0) : (g * c).fdiv g = c := Int.mul_fdiv_cancel_left c hg
theorem fdiv_nat {a : Int} {b : Nat} : a.fdiv (b : Int) = a / (b : Int) := Int.fdiv_eq_ediv_of_nonneg a (by omega)
theorem _root_.Uv.Bt.dvd {k : Nat} {i j : Int} (h : Bt k i) (hi : i ≠ 0) (hj : j ∣ i) : Bt k j := Nat.lt_of_le_of_lt (Nat.le_of_dvd (Int.natAbs_pos.mpr hi) (Int.natAbs_dvd_natAbs.mpr hj)) h
theorem m_init {a b : Int} {k : Nat} {R : List D → Prop} (hb : b ≠ 0) (hk : Bt k b) (hk2 : k ≤ 9000) (h : R [.int (rq a b).num, .int ((rq a b).den : Nat)]) : s_Ratio_init [.int a, .int b] R := by
  unfold s_Ratio_init
  bv_omega
  refine m_int_int ?_
  bv_omega
  refine m_int_int ?_
  bv_omega
  rfl'
  have e : (b == 0) = false := by simp [hb]
  rw [e]
  rfl'
  have g0 : Int.gcd a b ≠ 0 := fun z => hb (Int.gcd_eq_zero_iff.mp z).2
  obtain ⟨c, hc⟩ := Int.gcd_dvd_left a b
  obtain ⟨d, hd⟩ := Int.gcd_dvd_right a b
  have n1 : (rq a b).num = b.sign * a / (Int.gcd a b : Nat) := by
    show (Rat.divInt a b).num = _
    rw [Rat.num_divInt, Int.gcd_comm]
  have n2 : (rq a b).den = b.natAbs / Int.gcd a b := by
    show (Rat.divInt a b).den = _
    rw [Rat.den_divInt, if_neg hb, Int.gcd_comm]
  have lg : (Int.gcd a b : Int).natAbs.log2 < 9000 := ((hk.dvd hb (Int.gcd_dvd_right a b)).mono hk2).log (by decide)
  generalize Int.gcd a b = g at *
  have gz : (g : Int) ≠ 0 := by omega
  have nz : -(g : Int) ≠ 0 := by omega
  have ea : a.fdiv (g : Int) = c := by rw [hc]; exact dvd_fdiv gz
  have eb : b.fdiv (g : Int) = d := by rw [hd]; exact dvd_fdiv gz
  have ea' : a.fdiv (-(g : Int)) = -c := by rw [hc, ← Int.neg_mul_neg]; exact dvd_fdiv nz
  have eb' : b.fdiv (-(g : Int)) = -d := by rw [hd, ← Int.neg_mul_neg]; exact dvd_fdiv nz
  by_cases hp : 0 < b
  · rw [decide_eq_true hp]
    rfl'
    refine ⟨⟨gz, np lg⟩, ⟨gz, np lg⟩, ?_⟩
    rw [ea, eb]
    rw [Int.sign_eq_one_of_pos hp, Int.one_mul] at n1
    have m1 : a / (g : Int) = c := by rw [← fdiv_nat]; exact ea
    have m2 : ((b.natAbs / g : Nat) : Int) = d := by
      rw [Int.natCast_ediv, Int.natAbs_of_nonneg (Int.le_of_lt hp), ← fdiv_nat]
      exact eb
    rw [n1, n2, m1, m2] at h
    exact h
  · rw [decide_eq_false hp]
    rfl'
    refine ⟨⟨nz, np (by rw [Int.natAbs_neg]; exact lg)⟩, ⟨nz, np (by rw [Int.natAbs_neg]; exact lg)⟩, ?_⟩
    rw [ea', eb']
    rw [Int.sign_eq_neg_one_of_neg (by omega), Int.neg_one_mul] at n1
    have m1 : -a / (g : Int) = -c := by rw [← fdiv_nat, hc, ← Int.mul_neg]; exact dvd_fdiv gz
    have m2 : ((b.natAbs / g : Nat) : Int) = -d := by
      have e : (b.natAbs : Int) = -b := by omega
      rw [Int.natCast_ediv, e, ← fdiv_nat, hd, ← Int.mul_neg]
      exact dvd_fdiv gz
    rw [n1, n2, m1, m2] at h
    exact h
theorem rq_eq {a b : Int} : rq a b = (a : Rat) / (b : Rat) := Rat.divInt_eq_div a b
theorem rq_nat {a : Int} {b : Nat} : rq a (b : Int) = (a : Rat) / (b : Rat) := Rat.divInt_eq_div a b
theorem m_mk {a b : Int} {k : Nat} {R : D → Prop} (hb : b ≠ 0) (hk : Bt k b) (hk2 : k ≤ 9000) (h : R (encR (rq a b))) : mkM 0 s_Ratio_init [] [.int a, .int b] R := by
  rfl'
  exact m_init hb hk hk2 h
theorem m_mkF {a b : Int} {k : Nat} {R : D → Prop} (hb : b ≠ 0) (hk : Bt k b) (hk2 : k ≤ 9000) (h : R (encR (rq a b))) : mkF 0 s_Ratio_init [] [.int a, .int b] R := by
  rfl'
  exact m_init hb hk hk2 ⟨(fun e => nomatch e), h⟩
/-! brought over one number -/
theorem nat_bt {n k : Nat} (h : n < 2 ^ k) : Bt k (n : Int) := h
theorem lcm_pos' {a b : Nat} (ha : a ≠ 0) (hb : b ≠ 0) : Nat.lcm a b ≠ 0 := Nat.lcm_ne_zero ha hb
abbrev upto (L : Nat) (qs : List Rat) : List Int := qs.map fun q => q.num * ((L / q.den : Nat) : Int)
theorem upto_lft {L : Nat} (hL : L ≠ 0) : ∀ {qs : List Rat}, (∀ q ∈ qs, q.den ∣ L) → lft L (upto L qs) = qs
  | [], _ => rfl
  | q :: qs, h => by
    show ((q.num * ((L / q.den : Nat) : Int) : Int) : Rat) / (L : Rat) :: lft L (upto L qs) = q :: qs
    rw [upto_lft hL fun q hq => h q (List.mem_cons_of_mem _ hq)]
    congr 1
    obtain ⟨c, hc⟩ := h q List.mem_cons_self
    have dp := q.den_pos
    have c0 : c ≠ 0 := fun z => hL (by rw [hc, z, Nat.mul_zero])
    rw [hc, Nat.mul_div_cancel_left _ dp]
    have e := q_of q
    have d0 : (q.den : Rat) ≠ 0 := by exact_mod_cast q.den_nz
    have c1 : (c : Rat) ≠ 0 := by exact_mod_cast c0
    rw [Rat.intCast_mul, Rat.natCast_mul, Rat.intCast_natCast]
    conv => rhs; rw [e]
    grind
theorem upto_bt {N k L : Nat} {qs : List Rat} (h : Pl N k qs) (hN : N ≠ 0) (hL : L ∣ N) : ∀ i ∈ upto L qs, Bt k i := by
  intro i hi
  obtain ⟨q, hq, rfl⟩ := List.mem_map.mp hi
  obtain ⟨a, e, b⟩ := h q hq
  refine b.le ?_
  have m := (q_mul hN e).2
  rw [← m, Int.natAbs_mul, Int.natAbs_mul]
  refine Nat.mul_le_mul (Nat.le_refl _) ?_
  show L / q.den ≤ N / q.den
  exact Nat.div_le_div_right (Nat.le_of_dvd (Nat.pos_of_ne_zero hN) hL)
theorem m_cleared {v : D} {ds : List D} {qs : List Rat} {N k : Nat} {R : D → Prop} (hs : Sq v ds) (hd : Nus ds qs) (hl : qs.length ≤ 10000) (hp : Pl N k qs) (hN : N ≠ 0) (hb : N < 2 ^ 6000) (hk : k ≤ 10000)
    (h : ∀ (L : Nat) (a : List Int), L ≠ 0 → L ∣ N → lft L a = qs → (∀ i ∈ a, Bt k i) → R (.tup [iL a, .int L])) : s_cleared [v] R := by
  unfold s_cleared
  rfl'
  rw [hs.items]
  refine ⟨by rw [hd.len]; exact sz hl, mapD_all2 (φ := encP) hd (fun d q _ hq R' h => m_pair hq h) ?_⟩
  rfl'
  refine forC_map (fun ys s => ∃ L : Nat, s = .int L ∧ L ≠ 0 ∧ L ∣ N ∧ ∀ q ∈ ys, q.den ∣ L) _ qs ⟨1, rfl, by decide, Nat.one_dvd N, fun q hq => nomatch hq⟩ ?_ ?_
  · rintro ys q zs s nx e ⟨L, rfl, l0, l1, l2⟩ hn
    have mem : q ∈ qs := by rw [e]; exact List.mem_append_right _ List.mem_cons_self
    rfl'
    have dn := hp.den hN q mem
    have ll : L ≤ N := Nat.le_of_dvd (Nat.pos_of_ne_zero hN) l1
    have ld : q.den ≤ N := Nat.le_of_dvd (Nat.pos_of_ne_zero hN) dn
    refine ⟨⟨Nat.lt_of_le_of_lt ll hb, Nat.lt_of_le_of_lt ld hb⟩, hn _ ⟨Nat.lcm L q.den, rfl, lcm_pos' l0 q.den_nz, Nat.lcm_dvd l1 dn, ?_⟩⟩
    intro q' hq'
    rcases List.mem_append.mp hq' with h1 | h1
    · exact Nat.dvd_trans (l2 q' h1) (Nat.dvd_lcm_left _ _)
    · rw [List.mem_singleton.mp h1]
      exact Nat.dvd_lcm_right _ _
  · rintro s ⟨L, rfl, l0, l1, l2⟩
    have ll : L ≤ N := Nat.le_of_dvd (Nat.pos_of_ne_zero hN) l1
    rfl'
    refine ⟨by rw [List.length_map]; exact sz hl, mapD_map (φ := fun q => .int (q.num * ((L / q.den : Nat) : Int))) (fun q hq R' h => ?_) ?_⟩
    · rfl'
      have dn := hp.den hN q hq
      have ld : q.den ≤ N := Nat.le_of_dvd (Nat.pos_of_ne_zero hN) dn
      refine ⟨⟨by have := q.den_pos; omega, ?_⟩, ?_, ?_⟩
      · exact np (((nat_bt (Nat.lt_of_le_of_lt ld hb)).mono (by decide)).log (by decide))
      · rw [fdiv_nat, ← Int.natCast_ediv]
        have b1 := hp.num hN q hq
        have b2 : Bt 6000 ((L / q.den : Nat) : Int) := Nat.lt_of_le_of_lt (Nat.le_trans (Nat.div_le_self _ _) ll) hb
        exact b1.cm b2 (by omega)
      · rw [fdiv_nat, ← Int.natCast_ediv]
        exact h
    · have e : qs.map (fun q => D.int (q.num * ((L / q.den : Nat) : Int))) = (upto L qs).map .int := by rw [List.map_map]; rfl
      rw [e]
      exact ⟨sz, h L (upto L qs) l0 l1 (upto_lft l0 l2) (upto_bt hp hN l1)⟩
end Ml
set_option Elab.async false
set_option linter.all false
set_option maxRecDepth 100000
set_option maxHeartbeats 1000000
namespace Ml
open PySem L2 Inn Uv Sl
/-! ### lists of rationals in canonical form -/
theorem lft_trim {L : Nat} (hL : L ≠ 0) {a : List Int} : lft L (trim a) = trimQ (lft L a) := by
  refine (trimZ_map fun i _ => ?_).symm
  rw [q_eq0, Bool.eq_iff_iff, decide_eq_true_eq, beq_iff_eq]
  have l : (L : Rat) ≠ 0 := by exact_mod_cast hL
  constructor
  · intro h
    have : (i : Rat) = 0 := by grind
    exact_mod_cast this
  · intro h
    rw [h]
    grind
theorem TrQ.mk {p : List Rat} (h : p ≠ [] → cf p (p.length - 1) ≠ 0) : TrQ p := by
  intro a e
  dsimp only
  rw [q_eq0]
  refine decide_eq_false fun z => ?_
  have hp : p ≠ [] := by rintro rfl; cases e
  apply h hp
  rw [List.getLast?_eq_getElem?] at e
  rw [cf_get e, z]
theorem trQ_trim {p : List Rat} : TrQ (trimQ p) := trimZ_trimd
/-- told by the coefficients -/
theorem to_trim {p q : List Rat} (hp : TrQ p) (h : ∀ k, cf p k = cf q k) : p = trimQ q := poly_ext hp trQ_trim fun k => by rw [cf_trimZ]; exact h k
theorem trim_congr {p q : List Rat} (h : ∀ k, cf p k = cf q k) : trimQ p = trimQ q := poly_ext trQ_trim trQ_trim fun k => by rw [cf_trimZ, cf_trimZ]; exact h k
theorem zipL_map {α β : Type} {f : α → α → α} {f' : β → β → β} {g : α → β} (h : ∀ x y, g (f x y) = f' (g x) (g y)) : ∀ {a b : List α}, (zipL f a b).map g = zipL f' (a.map g) (b.map g)
  | [], b => rfl
  | x :: a, [] => rfl
  | x :: a, y :: b => by
    unfold zipL
    rw [List.map_cons, h, zipL_map h]
    rfl
theorem lft_add {L : Nat} {a b : List Int} : lft L (zipL (· + ·) a b) = zipL (· + ·) (lft L a) (lft L b) := zipL_map fun x y => by rw [Rat.intCast_add]; grind
theorem lft_len {L : Nat} {a : List Int} : (lft L a).length = a.length := List.length_map _
theorem cf_neg {p : List Rat} {k : Nat} : cf (p.map fun q => -q) k = -cf p k := cf_map (f := fun q => -q) (by show -(0 : Rat) = 0; grind)
theorem cf_smul {p : List Rat} {c : Rat} {k : Nat} : cf (p.map fun q => c * q) k = c * cf p k := cf_map (f := fun q => c * q) (Rat.mul_zero c)
abbrev padd (p q : List Rat) : List Rat := trimQ (zipL (· + ·) p q)
abbrev psub (p q : List Rat) : List Rat := trimQ (zipL (· + ·) p (q.map fun x => -x))
abbrev psm (c : Rat) (p : List Rat) : List Rat := trimQ (p.map fun x => c * x)
abbrev ptim (p q : List Rat) : List Rat := trimQ (pmul p q)
theorem cf_padd {p q : List Rat} {k : Nat} : cf (padd p q) k = cf p k + cf q k := by rw [cf_trimZ, cf_add]
theorem cf_psub {p q : List Rat} {k : Nat} : cf (psub p q) k = cf p k - cf q k := by rw [cf_trimZ, cf_add, cf_neg, Rat.sub_eq_add_neg]
theorem cf_psm {c : Rat} {p : List Rat} {k : Nat} : cf (psm c p) k = c * cf p k := by rw [cf_trimZ, cf_smul]
theorem cf_ptim {p q : List Rat} {k : Nat} : cf (ptim p q) k = mulc p (cf q) k := by rw [cf_trimZ, cf_pmul]
/-! sums -/
theorem sum_zero {β : Type} {f : β → Rat} : ∀ {l : List β}, (∀ x ∈ l, f x = 0) → (l.map f).sum = 0
  | [], _ => rfl
  | x :: l, h => by rw [List.map_cons, List.sum_cons, h x List.mem_cons_self, sum_zero fun y hy => h y (List.mem_cons_of_mem _ hy), Rat.add_zero]
theorem sum_app : ∀ {l m : List Rat}, (l ++ m).sum = l.sum + m.sum
  | [], m => by show m.sum = 0 + m.sum; rw [Rat.zero_add]
  | x :: l, m => by rw [List.cons_append, List.sum_cons, List.sum_cons, sum_app, Rat.add_assoc]
/-- what is 0 outside -/
theorem sum_window {n lo c : Nat} {f : Nat → Rat} (hn : lo + c ≤ n) (h : ∀ i, i < n → (i < lo ∨ lo + c ≤ i) → f i = 0) : ((List.range n).map f).sum = ((List.range c).map fun j => f (lo + j)).sum := by
  obtain ⟨d, rfl⟩ : ∃ d, n = lo + c + d := ⟨n - (lo + c), by omega⟩
  rw [List.range_add, List.range_add, List.map_append, List.map_append, sum_app, sum_app, sum_zero (l := List.range lo), List.map_map, List.map_map]
  · rw [sum_zero (l := List.range d), Rat.add_zero, Rat.zero_add]
    · rfl
    · intro j hj
      have := List.mem_range.mp hj
      show f (lo + c + j) = 0
      exact h _ (by omega) (.inr (by omega))
  · intro i hi
    have := List.mem_range.mp hi
    exact h i (by omega) (.inl this)
theorem cast_sum {L : Nat} : ∀ {l : List Int}, ((l.sum : Int) : Rat) / (L : Rat) = (lft L l).sum
  | [] => by
    show (((0 : Int)) : Rat) / (L : Rat) = 0
    rw [Rat.intCast_zero]
    grind
  | x :: l => by
    rw [List.sum_cons, Rat.intCast_add]
    show _ = (x : Rat) / (L : Rat) + (lft L l).sum
    rw [← cast_sum]
    grind
/-! ### polynomials in the program -/
theorem m_isp {v : D} {ds : List D} {qs : List Rat} {R : D → Prop} (hs : Sq v ds) (hd : Nus ds qs) (hl : qs.length ≤ 25) (h : R (.bl true)) : s_is_poly [v] R := by
  unfold s_is_poly
  have e : isT .list v = true ∨ isT .tuple v = true := by cases hs; exact .inl rfl; exact .inr rfl
  have ep : plainD v = true := by cases hs <;> rfl
  have fin : (mapD (fun vnumber => opN s_is_number (lcons (rt vnumber) lnil)) ds fun ys => allF [.lst ys] R) := by
    refine mapD_all2 (φ := fun _ => .bl true) hd (fun d q _ hq R' h => m_num_yes hq h) ?_
    rfl'
    refine ⟨qs.map fun _ => true, ?_, ?_⟩
    · rw [show qs.map (fun _ => D.bl true) = (qs.map fun _ => true).map D.bl by rw [List.map_map]; rfl]
      exact blsOf_map _
    · have : (qs.map fun _ => true).all id = true := by simp
      rw [this]
      exact h
  have len := hd.len
  bv_omega
  rw [ep]
  have : (isT .list v || isT .tuple v) = true := by rcases e with e | e <;> rw [e] <;> simp
  rw [this]
  bv_omega
  rfl'
  rw [hs.len]
  rfl'
  have : decide ((25 : Int) < ((ds.length : Nat) : Int)) = false := decide_eq_false (by omega)
  rw [this]
  rfl'
  rw [hs.items]
  exact ⟨sz (by omega), fin⟩
/-- a polynomial, over N, of k bits -/
structure Po (N k : Nat) (v : D) (qs : List Rat) : Prop where
  ex : ∃ ds, Sq v ds ∧ Nus ds qs
  len : qs.length ≤ 25
  pl : Pl N k qs
structure Ok (N k : Nat) : Prop where
  n0 : N ≠ 0
  nb : N < 2 ^ 4000
  kb : k ≤ 4000
theorem n6 {N : Nat} (h : N < 2 ^ 4000) : N < 2 ^ 6000 := Nat.lt_of_lt_of_le h (Nat.pow_le_pow_right (by decide) (by decide))
end Ml
set_option Elab.async false
set_option linter.all false
set_option maxRecDepth 100000
set_option maxHeartbeats 1000000
namespace Ml
open PySem L2 Inn Uv Sl
theorem trimZ_le {α : Type} {z : α → Bool} {l : List α} : (trimZ z l).length ≤ l.length := by
  rw [trimZ_len]
  exact tlen_le _
theorem le_n {L N : Nat} (hN : N ≠ 0) (h : L ∣ N) : L ≤ N := Nat.le_of_dvd (Nat.pos_of_ne_zero hN) h
/-- a number over N, of k bits -/
structure Rn (N k : Nat) (q : Rat) : Prop where
  ex : ∃ a : Int, q = (a : Rat) / (N : Rat) ∧ Bt k a
theorem Rn.den {N k : Nat} {q : Rat} (h : Rn N k q) (hN : N ≠ 0) : q.den ∣ N := by
  obtain ⟨a, e, _⟩ := h.ex
  exact (q_mul hN e).1
theorem Rn.num {N k : Nat} {q : Rat} (h : Rn N k q) (hN : N ≠ 0) : Bt k q.num := by
  obtain ⟨a, e, b⟩ := h.ex
  exact q_bits hN e b
theorem Pl.rn {N k : Nat} {qs : List Rat} (h : Pl N k qs) {q : Rat} (hq : q ∈ qs) : Rn N k q := ⟨h q hq⟩
/-! products -/
def ci (a : List Int) (i : Nat) : Int := (a[i]?).getD 0
theorem ci_lt {a : List Int} {i : Nat} (h : i < a.length) : a[i]? = some (ci a i) := by
  unfold ci
  rw [List.getElem?_eq_getElem h]
  rfl
theorem ci_bt {a : List Int} {i k : Nat} (h : ∀ x ∈ a, Bt k x) : Bt k (ci a i) := by
  unfold ci
  cases e : a[i]? with
  | none => exact Bt.zero
  | some x => exact h x (List.mem_of_getElem? e)
theorem cf_lft {L : Nat} {a : List Int} {i : Nat} : cf (lft L a) i = (ci a i : Rat) / (L : Rat) := by
  unfold cf ci
  rw [List.getElem?_map]
  cases a[i]? with
  | none =>
    show (0 : Rat) = ((0 : Int) : Rat) / (L : Rat)
    rw [Rat.intCast_zero]
    grind
  | some x => rfl
theorem ci_ge {a : List Int} {i : Nat} (h : a.length ≤ i) : ci a i = 0 := by
  unfold ci
  rw [List.getElem?_eq_none h]
  rfl
/-- the sum at k -/
def cl (a b : List Int) (k : Nat) : List Int := (List.range (min k (a.length - 1) + 1 - (k + 1 - b.length))).map fun j => ci a (k + 1 - b.length + j) * ci b (k - (k + 1 - b.length + j))
def mulL (a b : List Int) : List Int := if a.isEmpty || b.isEmpty then [] else (List.range (a.length - 1 + b.length)).map fun k => (cl a b k).sum
theorem cl_sum {L L' : Nat} {a b : List Int} {k : Nat} (ha : a ≠ []) (hk : k < a.length - 1 + b.length) : (((cl a b k).sum : Int) : Rat) / ((L * L' : Nat) : Rat) = mulc (lft L a) (cf (lft L' b)) k := by
  have la := List.length_pos_iff.mpr ha
  rw [cast_sum, mulc_sum, lft_len, sum_window (lo := k + 1 - b.length) (c := min k (a.length - 1) + 1 - (k + 1 - b.length)) (by omega)]
  · unfold cl
    show ((((List.range _).map _).map fun i : Int => (i : Rat) / ((L * L' : Nat) : Rat)).sum) = _
    rw [List.map_map]
    congr 1
    refine List.map_congr_left fun j hj => ?_
    have := List.mem_range.mp hj
    rw [if_pos (by omega), cf_lft, cf_lft]
    show ((ci a (k + 1 - b.length + j) * ci b (k - (k + 1 - b.length + j)) : Int) : Rat) / ((L * L' : Nat) : Rat) = _
    rw [Rat.intCast_mul, Rat.natCast_mul]
    grind
  · intro i hi ho
    by_cases h : i ≤ k
    · rw [if_pos h]
      have : ci b (k - i) = 0 := ci_ge (by omega)
      rw [cf_lft, cf_lft, this, Rat.intCast_zero]
      grind
    · rw [if_neg h]
theorem cl_top {a b : List Int} (ha : a ≠ []) (hb : b ≠ []) : (cl a b (a.length - 1 + (b.length - 1))).sum = ci a (a.length - 1) * ci b (b.length - 1) := by
  have la := List.length_pos_iff.mpr ha
  have lb := List.length_pos_iff.mpr hb
  unfold cl
  rw [show min (a.length - 1 + (b.length - 1)) (a.length - 1) + 1 - (a.length - 1 + (b.length - 1) + 1 - b.length) = 1 by omega]
  show ci a (a.length - 1 + (b.length - 1) + 1 - b.length + 0) * ci b (a.length - 1 + (b.length - 1) - (a.length - 1 + (b.length - 1) + 1 - b.length + 0)) + 0 = _
  rw [show a.length - 1 + (b.length - 1) + 1 - b.length + 0 = a.length - 1 by omega, show a.length - 1 + (b.length - 1) - (a.length - 1) = b.length - 1 by omega, Int.add_zero]
theorem mulc_ge {p q : List Rat} {k : Nat} (h : p.length + q.length ≤ k + 1) : mulc p (cf q) k = 0 := by
  rw [mulc_sum]
  refine sum_zero fun i hi => ?_
  have := List.mem_range.mp hi
  by_cases hk : i ≤ k
  · rw [if_pos hk, cf_ge (p := q) (by omega)]
    grind
  · rw [if_neg hk]
theorem mulc_nil {g : Nat → Rat} (hg : ∀ k, g k = 0) : ∀ {p : List Rat} {k : Nat}, mulc p g k = 0
  | [], _ => rfl
  | a :: p, k => by
    show a * g k + shift (mulc p g) k = 0
    rw [hg]
    cases k with
    | zero => show a * 0 + (0 : Rat) = 0; grind
    | succ k => show a * 0 + mulc p g k = 0; rw [mulc_nil hg]; grind
theorem cf_mulL {L L' : Nat} {a b : List Int} {k : Nat} : cf (lft (L * L') (mulL a b)) k = mulc (lft L a) (cf (lft L' b)) k := by
  unfold mulL
  by_cases ha : a = []
  · subst ha
    exact cf_nil
  by_cases hb : b = []
  · subst hb
    rw [mulc_nil (g := cf (lft L' [])) fun k => cf_nil]
    have e : (a.isEmpty || ([] : List Int).isEmpty) = true := by simp
    rw [e, if_pos rfl]
    exact cf_nil
  have e : (a.isEmpty || b.isEmpty) = false := by simp [ha, hb]
  rw [e, if_neg Bool.false_ne_true]
  by_cases hk : k < a.length - 1 + b.length
  · rw [cf_lft, ← cl_sum ha hk]
    unfold ci
    rw [List.getElem?_map, List.getElem?_range hk]
    rfl
  · have la := List.length_pos_iff.mpr ha
    rw [cf_ge, mulc_ge]
    · rw [lft_len, lft_len]
      omega
    · rw [lft_len, List.length_map, List.length_range]
      omega
theorem trimd_lft {L : Nat} (hL : L ≠ 0) {a : List Int} (h : Trimd (· == 0) a) : TrQ (lft L a) := by
  have e : lft L a = trimQ (lft L a) := by rw [← lft_trim hL]; exact congrArg (lft L) (trimZ_of h).symm
  rw [e]
  exact trQ_trim
theorem trQ_mulL {L : Nat} (hL : L ≠ 0) {a b : List Int} (h : Trimd (· == 0) a) (h' : Trimd (· == 0) b) : TrQ (lft L (mulL a b)) := by
  refine trimd_lft hL ?_
  unfold mulL
  by_cases ha : a = []
  · subst ha
    intro x e
    cases e
  by_cases hb : b = []
  · subst hb
    intro x e
    simp at e
  have e : (a.isEmpty || b.isEmpty) = false := by simp [ha, hb]
  rw [e, if_neg Bool.false_ne_true]
  have la := List.length_pos_iff.mpr ha
  have lb := List.length_pos_iff.mpr hb
  intro x hx
  rw [List.getLast?_eq_getElem?, List.length_map, List.length_range, List.getElem?_map, List.getElem?_range (by omega)] at hx
  have hx : (cl a b (a.length - 1 + b.length - 1)).sum = x := Option.some.inj hx
  rw [show a.length - 1 + b.length - 1 = a.length - 1 + (b.length - 1) by omega, cl_top ha hb] at hx
  subst hx
  have h1 := h (ci a (a.length - 1)) (by rw [List.getLast?_eq_getElem?, ci_lt (by omega)])
  have h2 := h' (ci b (b.length - 1)) (by rw [List.getLast?_eq_getElem?, ci_lt (by omega)])
  simp only [beq_eq_false_iff_ne, ne_eq] at h1 h2 ⊢
  exact Int.mul_ne_zero h1 h2
end Ml
set_option Elab.async false
set_option linter.all false
set_option maxRecDepth 100000
set_option maxHeartbeats 1000000
namespace Ml
open PySem L2 Inn Uv Sl
theorem isE {α : Type} {a : List α} {f : α → D} : (a.map f).isEmpty = a.isEmpty := by cases a <;> rfl
theorem m_multiplied {a b : List Int} {ka kb : Nat} {R : D → Prop} (ha : a.length ≤ 1000) (hb : b.length ≤ 1000) (ba : ∀ i ∈ a, Bt ka i) (bb : ∀ i ∈ b, Bt kb i) (hk : ka + kb ≤ 1000000) (h : R (iL (mulL a b))) : s_multiplied [iL a, iL b] R := by
  unfold s_multiplied
  rfl'
  rw [isE, isE]
  unfold mulL at h
  by_cases e1 : a = []
  · subst e1
    rfl'
    exact ⟨sz, h⟩
  by_cases e2 : b = []
  · subst e2
    have e : a.isEmpty = false := by simp [e1]
    rw [e] at h ⊢
    rfl'
    exact ⟨sz, h⟩
  have e3 : a.isEmpty = false := by simp [e1]
  have e4 : b.isEmpty = false := by simp [e2]
  rw [e3, e4] at h ⊢
  rw [if_neg (by simp)] at h
  rfl'
  have la := List.length_pos_iff.mpr e1
  have lb := List.length_pos_iff.mpr e2
  rw [List.length_map, List.length_map]
  refine ⟨sz, ⟨by omega, by omega⟩, ⟨?_, mapD_map (φ := fun k => .int ((cl a b k).sum)) (fun k hk' R' h' => ?_) ?_⟩⟩
  · rw [List.length_map, List.length_range]
    exact sz (by omega)
  · have hk2 := List.mem_range.mp hk'
    rfl'
    have elo : (if ((k : Nat) : Int) - ((b.length : Nat) : Int) + 1 > 0 then ((k : Nat) : Int) - ((b.length : Nat) : Int) + 1 else 0) = ((k + 1 - b.length : Nat) : Int) := by split <;> omega
    have ehi : (if ((a.length : Nat) : Int) - 1 < ((k : Nat) : Int) then ((a.length : Nat) : Int) - 1 else ((k : Nat) : Int)) + 1 = ((min k (a.length - 1) + 1 : Nat) : Int) := by split <;> omega
    rw [elo, ehi]
    have ec : (((min k (a.length - 1) + 1 : Nat) : Int) - ((k + 1 - b.length : Nat) : Int)).toNat = min k (a.length - 1) + 1 - (k + 1 - b.length) := by omega
    rw [ec]
    refine ⟨⟨by omega, by omega, by omega, by omega⟩, ?_, mapD_map (φ := fun j => .int (ci a (k + 1 - b.length + j) * ci b (k - (k + 1 - b.length + j)))) (fun j hj R2 h2 => ?_) ?_⟩
    · rw [List.length_map, List.length_range]
      exact sz (by omega)
    · have hj2 := List.mem_range.mp hj
      rfl'
      refine ⟨_, atI_of (j := k + 1 - b.length + j) (by omega) (iL_get (ci_lt (by omega))), _, atI_of (j := k - (k + 1 - b.length + j)) (by omega) (iL_get (ci_lt (by omega))), ?_⟩
      rfl'
      exact ⟨(ci_bt ba).cm (ci_bt bb) hk, h2⟩
    · rfl'
      refine ⟨cl a b k, ?_, h'⟩
      have e : (List.range (min k (a.length - 1) + 1 - (k + 1 - b.length))).map (fun j => D.int (ci a (k + 1 - b.length + j) * ci b (k - (k + 1 - b.length + j)))) = (cl a b k).map .int := by
        unfold cl
        rw [List.map_map]
        rfl
      rw [e]
      exact intsOf_map _
  · have ec : (((a.length : Nat) : Int) - 1 + ((b.length : Nat) : Int)).toNat = a.length - 1 + b.length := by omega
    rw [ec]
    have e : (List.range (a.length - 1 + b.length)).map (fun k => D.int ((cl a b k).sum)) = ((List.range (a.length - 1 + b.length)).map fun k => (cl a b k).sum).map .int := by
      rw [List.map_map]
      rfl
    rw [e]
    exact h
/-! derivatives -/
/-! worths -/
theorem pev_trim {p : List Rat} {x : Rat} : pev (trimQ p) x = pev p x := pev_congr fun k => cf_trimZ
end Ml
set_option Elab.async false
set_option linter.all false
set_option maxRecDepth 100000
set_option maxHeartbeats 1000000
set_option exponentiation.threshold 20000
namespace Ml
open PySem L2 Inn Uv Sl
/-! ### what is equal -/
def EqR (n : Nat) (d : D) : Prop := ∀ R : Bool → Prop, R true → eqD ownE n d d R
theorem eq0_int {i : Int} {R : Bool → Prop} (h : R true) : eq0 ownE (.int i) (.int i) R := by
  show whenB (some (eqV (.int i) (.int i))) R
  rw [eqV_refl _ rfl]
  exact h
theorem eqr_int {n : Nat} {i : Int} : EqR n (.int i) := fun R h => by cases n <;> exact eq0_int h
theorem m_req {q r : Rat} {R : D → Prop} (h : R (.bl (decide (q = r)))) : s_Ratio_eq [encR q, encR r] R := by
  unfold s_Ratio_eq
  bv_omega
  rfl'
  refine ⟨_, rfl, _, rfl, ?_⟩
  rfl'
  by_cases hn : q.num = r.num
  · have e : (q.num == r.num) = true := beq_iff_eq.mpr hn
    rw [e]
    rfl'
    refine ⟨_, rfl, _, rfl, ?_⟩
    rfl'
    by_cases hd : q.den = r.den
    · have e : q = r := Rat.ext hn hd
      have e2 : (((q.den : Nat) : Int) == ((r.den : Nat) : Int)) = true := beq_iff_eq.mpr (by rw [hd])
      rw [e2]
      rw [decide_eq_true e] at h
      exact h
    · have e2 : (((q.den : Nat) : Int) == ((r.den : Nat) : Int)) = false := by
        rw [beq_eq_false_iff_ne]
        omega
      rw [e2]
      rw [decide_eq_false fun e => hd (by rw [e])] at h
      exact h
  · have e : (q.num == r.num) = false := by
      rw [beq_eq_false_iff_ne]
      exact hn
    rw [e]
    rfl'
    rw [decide_eq_false fun e => hn (by rw [e])] at h
    exact h
theorem eq0_rat {q : Rat} {R : Bool → Prop} (h : R true) : eq0 ownE (encR q) (encR q) R := by
  refine ⟨rfl, ?_⟩
  show s_Ratio_eq [encR q, encR q] (tstK R)
  refine m_req ?_
  rw [decide_eq_true rfl]
  exact h
theorem eqr_rat {n : Nat} {q : Rat} : EqR n (encR q) := fun R h => by cases n <;> exact eq0_rat h
theorem eqs_refl {n : Nat} {R : Bool → Prop} (h : R true) : ∀ {ds : List D}, (∀ d ∈ ds, EqR n d) → eqS (eqD ownE n) ds ds R
  | [], _ => h
  | d :: ds, hd => hd d List.mem_cons_self _ (eqs_refl h fun d h => hd d (List.mem_cons_of_mem _ h))
theorem eql_refl {n : Nat} {R : Bool → Prop} {ds : List D} (hd : ∀ d ∈ ds, EqR n d) (h : R true) : eqL (eqD ownE n) ds ds R := by
  unfold eqL
  rw [if_pos rfl]
  exact eqs_refl h hd
theorem m_eq {n : Nat} {R : D → Prop} {ds : List D} (hd : ∀ d ∈ ds, EqR n d) (h : R (.bl true)) : eqT ownE n (.lst ds) (.lst ds) R := by
  rfl'
  exact eql_refl hd h
theorem m_ne {n : Nat} {R : D → Prop} {ds : List D} (hd : ∀ d ∈ ds, EqR n d) (h : R (.bl false)) : neT ownE n (.lst ds) (.lst ds) R := by
  rfl'
  exact eql_refl hd h
/-! ### texts -/
def Tl (n : Nat) (d : D) (b : Nat) : Prop := ∃ t, txtD ownT n d = some t ∧ t.length ≤ b
theorem Tl.mono {n b c : Nat} {d : D} (h : Tl n d b) (hb : b ≤ c) : Tl n d c := by
  obtain ⟨t, e, l⟩ := h
  exact ⟨t, e, Nat.le_trans l hb⟩
theorem txt_len {i : Int} {k : Nat} (h : i.natAbs.log2 < k) (hk : 0 < k) : (Str.ofString (toString i)).length ≤ k + 1 := by
  have := int_text_length_le hk h
  rw [ofString_length]
  exact this
theorem tl_int {n : Nat} {i : Int} (h : Bt 1000 i) : Tl n (.int i) 1001 := by
  have l := h.log (by decide)
  have e : txtD ownT n (.int i) = some (toString i : String) := by
    have : txt0 ownT (.int i) = some (toString i : String) := if_pos (by omega)
    cases n <;> exact this
  exact ⟨_, e, txt_len l (by decide)⟩
/-- a number of few bits -/
structure Sn (q : Rat) : Prop where
  n : Bt 1000 q.num
  d : Bt 1000 ((q.den : Nat) : Int)
theorem tl_rat {n : Nat} {q : Rat} (h : Sn q) : Tl n (encR q) 2020 := by
  have l1 := h.n.log (by decide)
  have l2 := h.d.log (by decide)
  have e : txtD ownT n (encR q) = some (ratT q.num ((q.den : Nat) : Int)) := by
    have e1 : purL [D.int q.num, D.int ((q.den : Nat) : Int)] = true := rfl
    have e2 : ownT 0 [D.int q.num, D.int ((q.den : Nat) : Int)] = some (ratT q.num ((q.den : Nat) : Int)) := if_pos ⟨by omega, by omega⟩
    have : txt0 ownT (encR q) = some (ratT q.num ((q.den : Nat) : Int)) := by
      show (if purL [D.int q.num, D.int ((q.den : Nat) : Int)] = true then ownT 0 [D.int q.num, D.int ((q.den : Nat) : Int)] else none) = _
      rw [e1, if_pos rfl, e2]
    cases n <;> exact this
  refine ⟨_, e, ?_⟩
  have t1 := txt_len l1 (by decide)
  have t2 := txt_len l2 (by decide)
  have la : ∀ a b : Str, (a ++ b).length = a.length + b.length := fun a b => Str.length_append a b
  have e0 : (Str.empty).length = 0 := rfl
  have e1 : (Str.ofString "Ratio(").length = 6 := rfl
  have e2 : (Str.ofString ", ").length = 2 := rfl
  have e3 : (Str.ofString ")").length = 1 := rfl
  unfold ratT
  simp only [List.foldl_cons, List.foldl_nil, la, e0, e1, e2, e3]
  omega
theorem mapT_tl {n b : Nat} : ∀ {ds : List D}, (∀ d ∈ ds, Tl n d b) → ∃ ts, mapT (txtD ownT n) ds = some ts ∧ (ts.map (·.length)).sum ≤ ds.length * b
  | [], _ => ⟨[], rfl, Nat.zero_le _⟩
  | d :: ds, h => by
    obtain ⟨t, e, l⟩ := h d List.mem_cons_self
    obtain ⟨ts, e2, l2⟩ := mapT_tl fun d hd => h d (List.mem_cons_of_mem _ hd)
    refine ⟨t :: ts, ?_, ?_⟩
    · unfold mapT
      rw [e, e2]
    · rw [List.map_cons, List.sum_cons, List.length_cons, Nat.succ_mul]
      omega
theorem tl_lst {n b m : Nat} {ds : List D} (h : ∀ d ∈ ds, Tl n d b) (hm : ds.length ≤ m) : Tl (n + 1) (.lst ds) (m * (b + 2) + 3) := by
  obtain ⟨ts, e, l⟩ := mapT_tl h
  refine ⟨listText ts, ?_, ?_⟩
  · show (mapT (txtD ownT n) ds).map listText = _
    rw [e]
    rfl
  · have := listText_len_le ts
    have e2 := mapT_len e
    have : m * (b + 2) = m * b + m * 2 := Nat.mul_add _ _ _
    have : ds.length * b ≤ m * b := Nat.mul_le_mul_right _ hm
    omega
theorem tl_tup {n b m : Nat} {ds : List D} (h : ∀ d ∈ ds, Tl n d b) (hm : ds.length ≤ m) : Tl (n + 1) (.tup ds) (m * (b + 2) + 3) := by
  obtain ⟨ts, e, l⟩ := mapT_tl h
  refine ⟨tupleText ts, ?_, ?_⟩
  · show (mapT (txtD ownT n) ds).map tupleText = _
    rw [e]
    rfl
  · have := tupleText_len_le ts
    have e2 := mapT_len e
    have : m * (b + 2) = m * b + m * 2 := Nat.mul_add _ _ _
    have : ds.length * b ≤ m * b := Nat.mul_le_mul_right _ hm
    omega
end Ml
set_option Elab.async false
set_option linter.all false
set_option maxRecDepth 100000
set_option maxHeartbeats 1000000
set_option exponentiation.threshold 20000
namespace Ml
open PySem L2 Inn Uv Sl
theorem same_ownE : SameOwn ownE := by
  intro T N P H us c a b R inj ha hb h
  match c with
  | c + 2 => exact h.elim
  | 1 =>
    have h : s_Fraction_eq [.ins 1 a, .ins 1 b] (tstK R) := h
    unfold s_Fraction_eq at h
    obtain ⟨_, h⟩ := h
    obtain ⟨_, x, hx, _, y, hy, h⟩ := h
    have h := same_at same_noE inj ha hb hx hy h
    obtain ⟨_, x2, hx2, _, y2, hy2, h⟩ := h
    exact same_at same_noE inj ha hb hx2 hy2 h
  | 0 =>
    have h : s_Ratio_eq [.ins 0 a, .ins 0 b] (tstK R) := h
    unfold s_Ratio_eq at h
    obtain ⟨_, h⟩ := h
    obtain ⟨_, x, hx, _, y, hy, h⟩ := h
    have h := same_at same_noE inj ha hb hx hy h
    obtain ⟨_, x2, hx2, _, y2, hy2, h⟩ := h
    exact same_at same_noE inj ha hb hx2 hy2 h
theorem own_repr {l : List D} {t : Str} {R : D → Prop} (h : ownT 0 l = some t) (hR : R (.str t)) : s_Ratio_repr [.ins 0 l] R := by
  unfold ownT at h
  split at h
  · rename_i a b e
    split at h
    · rename_i hc
      obtain ⟨h1, h2⟩ := hc
      cases h
      have t1 := txt_len h1 (by decide)
      have t2 := txt_len h2 (by decide)
      have la : ∀ a b : Str, (a ++ b).length = a.length + b.length := fun a b => Str.length_append a b
      have e0 : (Str.empty).length = 0 := rfl
      have e1 : (Str.ofString "Ratio(").length = 6 := rfl
      have e2 : (Str.ofString ", ").length = 2 := rfl
      have e3 : (Str.ofString ")").length = 1 := rfl
      have hs : 10000 ≤ sizeLine := by decide
      unfold s_Ratio_repr
      refine ⟨_, rfl, ?_, rfl, _, rfl, ?_⟩
      · simp only [la, e0, e1]; omega
      refine ⟨h1, _, rfl, ?_, _, rfl, ?_, rfl, _, rfl, h2, _, rfl, ?_, _, rfl, ?_, hR⟩
      all_goals (simp only [la, e0, e1, e2, e3]; omega)
    · cases h
  · cases h
theorem draw_inv : ∀ (ds : List D) (R : D → Prop), s_law_draw ds R → ∃ a n, ds = [.pot a, .int n] ∧ 0 < n ∧ n ≤ 2 ^ 20 ∧ ∀ i : Int, 0 ≤ i → i < n → R (.int i) := by
  intro ds R h
  unfold s_law_draw at h
  split at h
  · unfold drawG at h
    split at h
    · exact ⟨_, _, rfl, h⟩
    · exact h.elim
  · exact h.elim
end Ml
set_option Elab.async false
set_option linter.all false
set_option maxRecDepth 100000
set_option maxHeartbeats 4000000
set_option exponentiation.threshold 20000
namespace K42
open PySem PySem.Spec PyProof.Rows L2 Inn Uv Sl
section
variable {P : Program} {w : World} {K : PySem.W.Frag} {mg : Str → Option Value} {hp : Heap} {base : Heap}
theorem cls0 (h : okX K = true) : ClsD K (ct K) 0 where
  cl := ⟨(okX.at h 81), (okX.at h 82), (okX.at h 83), (He.eqO_ok (okX.at h 84))⟩
  no := by
    intro f hf
    have hf : f ∈ (["_top", "_bottom"] : List Str) := hf
    simp only [List.mem_cons, List.not_mem_nil, or_false] at hf
    rcases hf with rfl | rfl
    · exact (He.eqO_ok (okX.at h 101))
    · exact (He.eqO_ok (okX.at h 102))
  nd := by show (["_top", "_bottom"] : List Str).Nodup; decide +kernel
  few := by show (["_top", "_bottom"] : List Str).length < 1000; decide
  ha := (He.eqO_ok (okX.at h 85))
  hn := (He.eqO_ok (okX.at h 78))
  htk := (of_decide_eq_true (okX.at h 79))
  hm := (of_decide_eq_true (okX.at h 86))
  kb := by
    intro t ht
    simp only [List.mem_cons, List.not_mem_nil, or_false] at ht
    rcases ht with rfl | rfl | rfl | rfl | rfl | rfl
    · exact (of_decide_eq_true (okX.at h 87))
    · exact (of_decide_eq_true (okX.at h 88))
    · exact (of_decide_eq_true (okX.at h 89))
    · exact (of_decide_eq_true (okX.at h 90))
    · exact (of_decide_eq_true (okX.at h 91))
    · exact (of_decide_eq_true (okX.at h 92))
  bk := by
    intro t ht
    simp only [List.mem_cons, List.not_mem_nil, or_false] at ht
    rcases ht with rfl | rfl | rfl | rfl | rfl | rfl | rfl
    · exact (of_decide_eq_true (okX.at h 93))
    · exact (of_decide_eq_true (okX.at h 94))
    · exact (of_decide_eq_true (okX.at h 95))
    · exact (of_decide_eq_true (okX.at h 96))
    · exact (of_decide_eq_true (okX.at h 97))
    · exact (of_decide_eq_true (okX.at h 98))
    · exact (of_decide_eq_true (okX.at h 99))
  kc := by
    intro c hc
    have hc : c < 1 := hc
    match c, hc with
    | 0, _ => exact (of_decide_eq_true (okX.at h 100))
    | c + 1, hc => exact absurd hc (by omega)
theorem txt_of (X : K.In hp) (G : hp.Ns mainGlobals mg) (h : okX K = true) : Txt K mg where
  C := by
    intro c hc
    have hc : c < 1 := hc
    match c, hc with
    | 0, _ => exact cls0 h
    | c + 1, hc => exact absurd hc (by omega)
  inj := by
    intro c c' hc hc'
    have hc : c < 1 := hc
    have hc' : c' < 1 := hc'
    match c, c', hc, hc' with
    | 0, 0, _, _ => exact fun _ => rfl
    | c + 1, _, hc, _ => exact absurd hc (by omega)
    | _, c + 1, _, hc => exact absurd hc (by omega)
  sub2 := by
    intro c c' hc hc'
    have hc : c < 1 := hc
    have hc' : c' < 1 := hc'
    match c, c', hc, hc' with
    | 0, 0, _, _ => exact fun n => absurd rfl n
    | c + 1, _, hc, _ => exact absurd hc (by omega)
    | _, c + 1, _, hc => exact absurd hc (by omega)
  mg_Ratio := (PySem.W.mg_of X G (He.eqO_ok (okX.at h 80)))
  len := PySem.W.mg_none_of X G (He.eqO_ok (okX.at h 0))
  abs := PySem.W.mg_none_of X G (He.eqO_ok (okX.at h 1))
  max := PySem.W.mg_none_of X G (He.eqO_ok (okX.at h 2))
  min := PySem.W.mg_none_of X G (He.eqO_ok (okX.at h 3))
  sum := PySem.W.mg_none_of X G (He.eqO_ok (okX.at h 4))
  all := PySem.W.mg_none_of X G (He.eqO_ok (okX.at h 5))
  any := PySem.W.mg_none_of X G (He.eqO_ok (okX.at h 6))
  divmod := PySem.W.mg_none_of X G (He.eqO_ok (okX.at h 7))
  repr := PySem.W.mg_none_of X G (He.eqO_ok (okX.at h 8))
  range := PySem.W.mg_none_of X G (He.eqO_ok (okX.at h 9))
  enumerate := PySem.W.mg_none_of X G (He.eqO_ok (okX.at h 10))
  zip := PySem.W.mg_none_of X G (He.eqO_ok (okX.at h 11))
  isinstance := PySem.W.mg_none_of X G (He.eqO_ok (okX.at h 12))
  int_ := PySem.W.mg_none_of X G (He.eqO_ok (okX.at h 13))
  bool_ := PySem.W.mg_none_of X G (He.eqO_ok (okX.at h 14))
  str_ := PySem.W.mg_none_of X G (He.eqO_ok (okX.at h 15))
  list_ := PySem.W.mg_none_of X G (He.eqO_ok (okX.at h 16))
  tuple_ := PySem.W.mg_none_of X G (He.eqO_ok (okX.at h 17))
  dict_ := PySem.W.mg_none_of X G (He.eqO_ok (okX.at h 18))
  gcd := (PySem.W.mg_of X G (He.eqO_ok (okX.at h 19)))
  lcm := (PySem.W.mg_of X G (He.eqO_ok (okX.at h 20)))
  c_MOST_NUMBERS := intIn_ok X G (okX.at h 21)
  c_MOST_DEGREE := intIn_ok X G (okX.at h 22)
theorem scP : FnScope ["_law_script", "_law_k", "_law_cell"] ["_law_script", "_law_k"] (defScope (top 47)) := ⟨rfl, rfl, rfl, by decide +kernel, rfl, by decide +kernel, by decide +kernel⟩
theorem ok_law_pot {f : Addr} {fd : FuncData} (F : Fun K "_law_pot" "_law_pot" (top 47) f fd) (T : Txt K mg) : FnOk P w K mg base CX0 1 f fd ["_law_script", "_law_k"] (SpF (fun a : Cns (Scr K) (Cns Int Nil) => a.t.h = 0) fun _ y => PotR y) := by
  refine fn_body F scP rfl fun cdv A' outer s H E W vs ⟨x, i, ⟨⟩⟩ Q hr hargs hI hp k => ?_
  obtain ⟨v, _, rfl, hv, v2, _, rfl, hv2, rfl⟩ := hargs
  have hp : i = 0 := hp
  subst hp
  have hv2 : Dat.Is W H v2 (0 : Int) := hv2
  refine wss_set (P := fun y : Int => True) 2 (Dx.imp (dx_add (dx_mul dx_int (dx_var 1 hv2) (cm40 (i := 131) (j := 0) (by decide) (by decide) (by decide) (by decide))) (dx_int (i := 59))) fun _ _ => trivial) hI (fun v3 H1 c u1 i1 h3 _ => ?_) scP.nd
  have hv1 : Dat.Is W H1 v x := Dat.up u1 hv
  have hk1 : Dat.Is W H1 v2 (0 : Int) := hv2
  refine wss_if (tx_lt (dx_var 1 hk1) (dx_lenS (dx_var (α := Scr K) 0 hv1) T.len)) i1 fun b H2 u2 i2 hb => ?_
  have hv2' : Dat.Is W H2 v x := Dat.up u2 hv1
  have hk : Dat.Is W H2 v2 (0 : Int) := hv2
  split
  · rename_i hbt
    obtain ⟨xl⟩ := x
    cases xl with
    | nil =>
      exfalso
      rw [hb] at hbt
      revert hbt
      simp
    | cons a l =>
      refine wss_set (P := fun y : Int => True) 2 (Dx.imp (dx_abs (dx_ixS (x := (⟨a :: l⟩ : Scr K)) (z := a) (n := 0) (dx_var (α := Scr K) 0 hv2') ((dx_var 1 hk).imp fun _ h => h) rfl) T.abs) fun _ _ => trivial) i2 (fun v4 H3 c u3 i3 h3 _ => wss_nil ?_) scP.nd
      have h3 : Dat.Is W H3 v4 c := h3
      have hk : Dat.Is W H3 v2 (0 : Int) := hv2
      refine wss_ret (dx_lstP (lx_consP (dx_max2P rfl dx_int (dx_sub (dx_var 2 h3) (dx_pow (i := 10) (j := 18) dx_int dx_int ⟨by decide, by decide, by decide⟩)) T.max) (lx_consP (dx_addP (dx_modP (dx_mulP (dx_intP (dx_addP (dx_modP (dx_intP (dx_var 2 h3) T.int_) dx_int (by decide)) dx_int) T.int_) (dx_pow (i := 2 * 0 + 3) (j := 3) (dx_add (dx_mul dx_int (dx_var 1 hk) (cm40 (by decide) (by decide) (by decide) (by decide))) dx_int) dx_int ⟨by decide, by decide, by decide⟩) ?_) dx_int (by decide)) dx_int) lx_nil)) ?_) i3 fun u H9 y u9 i9 hy ey => k u H9 y ((u1.trans (u2.trans u3)).trans u9) i9 hy ?_
      · rintro i j ⟨_, _, ⟨c', _, rfl⟩, rfl, rfl⟩ rfl
        have := fmod_lt (i := c') (j := 2147483549) (by decide)
        exact cm40 (by omega) (by omega) (by decide) (by decide)
      · rintro xs ⟨x1, r1, _, ⟨x2, r2, _, e, rfl⟩, rfl⟩
        rw [e]
        show 2 ≤ 100000
        decide
      · obtain ⟨x1, r1, ⟨j1, ej1, ex1⟩, ⟨x2, r2, ⟨a2, b2, ⟨a3, _, ea3⟩, eb2, ex2⟩, er2, er1⟩, ey⟩ := ey
        have m := fmod_lt (i := a3) (j := 2147483477) (by decide)
        refine ⟨x1, x2, by rw [ey, er1, er2], ?_, ?_, ?_⟩
        · rw [ex1]; split <;> omega
        · omega
        · omega
  · refine wss_nil ?_
    have h3 : Dat.Is W H2 v3 c := Dat.up u2 h3
    refine wss_ret (dx_lstP (lx_consP (dx_max2P rfl dx_int (dx_sub (dx_var 2 h3) (dx_pow (i := 10) (j := 18) dx_int dx_int ⟨by decide, by decide, by decide⟩)) T.max) (lx_consP (dx_addP (dx_modP (dx_mulP (dx_intP (dx_addP (dx_modP (dx_intP (dx_var 2 h3) T.int_) dx_int (by decide)) dx_int) T.int_) (dx_pow (i := 2 * 0 + 3) (j := 3) (dx_add (dx_mul dx_int (dx_var 1 hk) (cm40 (by decide) (by decide) (by decide) (by decide))) dx_int) dx_int ⟨by decide, by decide, by decide⟩) ?_) dx_int (by decide)) dx_int) lx_nil)) ?_) i2 fun u H9 y u9 i9 hy ey => k u H9 y ((u1.trans u2).trans u9) i9 hy ?_
    · rintro i j ⟨_, _, ⟨c', _, rfl⟩, rfl, rfl⟩ rfl
      have := fmod_lt (i := c') (j := 2147483549) (by decide)
      exact cm40 (by omega) (by omega) (by decide) (by decide)
    · rintro xs ⟨x1, r1, _, ⟨x2, r2, _, e, rfl⟩, rfl⟩
      rw [e]
      show 2 ≤ 100000
      decide
    · obtain ⟨x1, r1, ⟨j1, ej1, ex1⟩, ⟨x2, r2, ⟨a2, b2, ⟨a3, _, ea3⟩, eb2, ex2⟩, er2, er1⟩, ey⟩ := ey
      have m := fmod_lt (i := a3) (j := 2147483477) (by decide)
      refine ⟨x1, x2, by rw [ey, er1, er2], ?_, ?_, ?_⟩
      · rw [ex1]; split <;> omega
      · omega
      · omega
theorem scD : FnScope ["_law_pot_here", "_law_size", "_law_digit"] ["_law_pot_here", "_law_size"] (defScope (top 48)) := ⟨rfl, rfl, rfl, by decide +kernel, rfl, by decide +kernel, by decide +kernel⟩
theorem ok_law_draw {f : Addr} {fd : FuncData} (F : Fun K "_law_draw" "_law_draw" (top 48) f fd) (T : Txt K mg) : FnOk P w K mg base CX0 1 f fd ["_law_pot_here", "_law_size"] (SpF DrawPre DrawR) := by
  refine fn_body F scD rfl fun cdv A' outer s H E W vs ⟨x, m, ⟨⟩⟩ Q hr hargs hI hp k => ?_
  obtain ⟨v, _, rfl, hv, v2, _, rfl, hv2, rfl⟩ := hargs
  have hp0 : 0 < m := hp.1
  have hp1 : m < 2 ^ 30 := hp.2
  have hv2 : Dat.Is W H v2 m := hv2
  have pot : ∀ H, Dat.Is W H v x := fun _ => hv
  have hm9 : m.natAbs.log2 < 9000 := log9 hp0 hp1
  refine wss_if (tx_gtP (dx_pot0 (dx_var 0 (pot _)) dx_int) dx_int) hI fun b H1 u1 i1 _ => ?_
  have hv21 : ∀ H', Dat.Is W H' v2 m := fun _ => hv2
  split
  · refine wss_pot0 2 (dx_divmodP (dx_pot0 (dx_var 0 (pot _)) dx_int) (dx_var 1 (hv21 _)) hp0 hm9 T.divmod) (fun H' => dx_var 0 (pot H')) (fun H' => dx_int) i1 (fun n hn => ?_) scD.nd rfl (fun H2 n hn u2 i2 => ?_)
    · obtain ⟨i, h0, rfl⟩ := hn
      exact Int.ediv_nonneg h0 (Int.le_of_lt hp0)
    · refine wss_ret (dx_var (α := Int) (x := n.2) 2 rfl) i2 fun u H3 y u3 i3 hy ey => k u H3 y (u1.trans (u2.trans u3)) i3 hy ?_
      obtain ⟨i, h0, rfl⟩ := hn
      rw [ey]
      exact ⟨Int.emod_nonneg _ (Int.ne_of_gt hp0), Int.emod_lt_of_pos _ hp0⟩
  · refine wss_nil ?_
    refine wss_pot1 (dx_modP (dx_intP (dx_addP (dx_mulP (dx_pot1 (dx_var 0 (pot _)) dx_int) dx_int ?_) dx_int) T.int_) dx_int (by decide)) (fun H' => dx_var 0 (pot H')) (fun H' => dx_int) i1 (fun n hn => ?_) (fun H2 u2 i2 => ?_)
    · rintro i j ⟨h0, h1⟩ rfl
      exact cm40 h0 h1 (by decide) (by decide)
    · obtain ⟨i, _, rfl⟩ := hn
      have := fmod_lt (i := i) (j := 2147483587) (by decide)
      exact ⟨this.1, by omega⟩
    · refine wss_ret (dx_modP (dx_intP (dx_fdivP (dx_modP (dx_intP (dx_mulP (dx_pot1 (dx_var 0 (pot _)) dx_int) (dx_pot1 (dx_var 0 (pot _)) dx_int) ?_) T.int_) dx_int (by decide)) dx_int (by decide) (by decide)) T.int_) (dx_var 1 (hv21 _)) (Int.ne_of_gt hp0)) i2 fun u H3 y u3 i3 hy ey => k u H3 y (u1.trans (u2.trans u3)) i3 hy ?_
      · rintro i j ⟨h0, h1⟩ ⟨k0, k1⟩
        exact cm40 h0 h1 k0 k1
      · obtain ⟨i, _, rfl⟩ := ey
        exact fmod_lt hp0
theorem scL : FnScope ["_law_script"] ["_law_script"] (defScope (top 74)) := ⟨rfl, rfl, rfl, by decide +kernel, rfl, by decide +kernel, by decide +kernel⟩
abbrev DPot (P : Program) (w : World) (K : PySem.W.Frag) (mg : Str → Option Value) (base : Heap) : Prop := Def P w K mg base 1 "_law_pot" ["_law_script", "_law_k"] (SpF (fun a : Cns (Scr K) (Cns Int Nil) => a.t.h = 0) fun _ y => PotR y)
theorem ok_law {f : Addr} {fd : FuncData} (F : Fun K "law" "law" (top 74) f fd) (DP : DPot P w K mg base) (DR : DefDG (ct K) P w K mg base 12 "_law_right" false 1 s_law_right_k42) (hs : ∀ a R, R (.bl true) → s_law_right_k42 [.pot a] R) : FnG P w K mg base 13 f fd ["_law_script"] (spLaw K) := by
  refine fnG_of F scL (fun vs H Q E ⟨a, ns, e, _⟩ => by rw [e]; rfl) fun cdv A outer s H vs Q hG hr ⟨a, ns, e, hS, k⟩ => ?_
  subst e
  have hv : Dat.Is WZ H (.ref a) (⟨ns⟩ : Scr K) := ⟨a, rfl, fun h => h, hS⟩
  refine wss_retD DR hs hG hr (Dx.imp (P := PotR) ?_ fun _ h => h) k
  exact Dx.imp (dx_call (x := (⟨⟨ns⟩, ⟨(0 : Int), ⟨⟩⟩⟩ : Cns (Scr K) (Cns Int Nil))) DP (hr.mono (by decide)) (ax_cons (dx_var 0 hv) (ax_cons dx_int ax_nil)) rfl) fun _ h => h
theorem all_of (X : K.In hp) (G : hp.Ns mainGlobals mg) (c : TellX okX fn K) : DPot P w K mg base ∧ DefDG (ct K) P w K mg base 12 "_law_right" false 1 s_law_right_k42 := by
  have h := c.truth
  have Tx := txt_of X G h
  obtain ⟨fd56, F56⟩ := c.def_ 56
  have F56 : FunD K "_law_right" "_law_right" (defArgs (top 73)) (defBody (top 73)) (defScope (top 73)) [] [] (He.ga K "_law_right") fd56 := F56
  have b56 := FunD.bindsN (ps := ["_law_pot_here"]) F56 fun _ _ _ _ _ _ us hl => match us, hl with | [_], _ => rfl
  obtain ⟨fd55, F55⟩ := c.def_ 55
  have F55 : FunD K "_law_any_right" "_law_any_right" (defArgs (top 72)) (defBody (top 72)) (defScope (top 72)) [] [] (He.ga K "_law_any_right") fd55 := F55
  have b55 := FunD.bindsN (ps := ["_law_pot_here", "_law_one", "_law_other"]) F55 fun _ _ _ _ _ _ us hl => match us, hl with | [_, _, _], _ => rfl
  obtain ⟨fd13, F13⟩ := c.def_ 13
  have F13 : FunD K "_law_given_form" "_law_given_form" (defArgs (top 69)) (defBody (top 69)) (defScope (top 69)) [] [] (He.ga K "_law_given_form") fd13 := F13
  have b13 := FunD.bindsN (ps := ["_law_pot_here", "_law_form_here"]) F13 fun _ _ _ _ _ _ us hl => match us, hl with | [_, _], _ => rfl
  obtain ⟨fd58, F58⟩ := c.def_ 58
  have F58 : FunD K "_law_draw" "_law_draw" (defArgs (top 48)) (defBody (top 48)) (defScope (top 48)) [] [] (He.ga K "_law_draw") fd58 := F58
  have b58 := FunD.bindsN (ps := ["_law_pot_here", "_law_size"]) F58 fun _ _ _ _ _ _ us hl => match us, hl with | [_, _], _ => rfl
  have D_law_draw : DefD (ct K) P w K mg base 1 "_law_draw" false 2 s_law_draw := ⟨⟨_, _, _, draw_D (ok_law_draw (He5.fun_of F58) Tx) Ml.draw_inv, (PySem.W.mg_of X G (He.eqO_ok (okX.at h 76))), F58.kp, b58⟩, fun _ _ => len_s_law_draw⟩
  obtain ⟨fd12, F12⟩ := c.def_ 12
  have F12 : FunD K "_law_passed" "_law_passed" (defArgs (top 59)) (defBody (top 59)) (defScope (top 59)) [] [] (He.ga K "_law_passed") fd12 := F12
  have b12 := FunD.bindsN (ps := ["_law_pot_here", "_law_pair"]) F12 fun _ _ _ _ _ _ us hl => match us, hl with | [_, _], _ => rfl
  obtain ⟨fd11, F11⟩ := c.def_ 11
  have F11 : FunD K "__init__" "Ratio.__init__" (defArgs (cm 22 0)) (defBody (cm 22 0)) (defScope (cm 22 0)) [.int 1] [] (He.ma K (rc K) "__init__") fd11 := F11
  obtain ⟨fd10, F10⟩ := c.def_ 10
  have F10 : FunD K "is_integer" "is_integer" (defArgs (top 20)) (defBody (top 20)) (defScope (top 20)) [] [] (He.ga K "is_integer") fd10 := F10
  have b10 := FunD.bindsN (ps := ["value"]) F10 fun _ _ _ _ _ _ us hl => match us, hl with | [_], _ => rfl
  have ok10 := ok_is_integer (P := P) (w := w) (mg := mg) (base := base) F10 Tx 
  have D_is_integer : DefD (ct K) P w K mg base 1 "is_integer" false 1 s_is_integer := ⟨⟨_, _, _, ok10, (PySem.W.mg_of X G (He.eqO_ok (okX.at h 33))), F10.kp, b10⟩, (fun _ _ => len_s_is_integer)⟩
  have ok11 := ok_Ratio_init (P := P) (w := w) (mg := mg) (base := base) F11 Tx D_is_integer
  obtain ⟨dsM_Ratio2, dvM_Ratio2, dbM_Ratio2⟩ := FunD.binds1 (ps := ["self", "top", "bottom"]) F11 3 1 (by simp) rfl fun T kV doc pm an cdv ct us its l1 l2 => match us, l1, its, l2 with | [_, _, _], _, [_], _ => ⟨_, rfl, rfl⟩
  have M_Ratio2 : MkD (ct K) P w K mg base 4 0 "Ratio" 2 s_Ratio_init [] := ⟨⟨_, _, _, dsM_Ratio2, _, ok11, ⟨(okX.at h 103), (He.eqO_ok (okX.at h 105)), (okX.at h 106), (okX.at h 104)⟩, (PySem.W.mg_of X G (He.eqO_ok (okX.at h 80))), dbM_Ratio2, dvM_Ratio2, fun _ _ => .nil⟩, (fun _ _ => len_s_Ratio_init), by show 0 < 1; decide⟩
  have ok12 := ok_law_passed (P := P) (w := w) (mg := mg) (base := base) F12 Tx D_law_draw M_Ratio2
  have D_law_passed : DefD (ct K) P w K mg base 6 "_law_passed" false 2 s_law_passed := ⟨⟨_, _, _, ok12, (PySem.W.mg_of X G (He.eqO_ok (okX.at h 34))), F12.kp, b12⟩, (fun _ _ => len_s_law_passed)⟩
  have ok13 := ok_law_given_form (P := P) (w := w) (mg := mg) (base := base) F13 Tx D_law_draw D_law_passed
  have D_law_given_form : DefD (ct K) P w K mg base 7 "_law_given_form" false 2 s_law_given_form := ⟨⟨_, _, _, ok13, (PySem.W.mg_of X G (He.eqO_ok (okX.at h 35))), F13.kp, b13⟩, (fun _ _ => len_s_law_given_form)⟩
  obtain ⟨fd53, F53⟩ := c.def_ 53
  have F53 : FunD K "_law_goes_in" "_law_goes_in" (defArgs (top 67)) (defBody (top 67)) (defScope (top 67)) [] [] (He.ga K "_law_goes_in") fd53 := F53
  have b53 := FunD.bindsN (ps := ["_law_one", "_law_other"]) F53 fun _ _ _ _ _ _ us hl => match us, hl with | [_, _], _ => rfl
  obtain ⟨fd52, F52⟩ := c.def_ 52
  have F52 : FunD K "_law_divided" "_law_divided" (defArgs (top 58)) (defBody (top 58)) (defScope (top 58)) [] [] (He.ga K "_law_divided") fd52 := F52
  have b52 := FunD.bindsN (ps := ["_law_one", "_law_other"]) F52 fun _ _ _ _ _ _ us hl => match us, hl with | [_, _], _ => rfl
  obtain ⟨fd2, F2⟩ := c.def_ 2
  have F2 : FunD K "_law_over" "_law_over" (defArgs (top 53)) (defBody (top 53)) (defScope (top 53)) [] [] (He.ga K "_law_over") fd2 := F2
  have b2 := FunD.bindsN (ps := ["_law_one", "_law_other"]) F2 fun _ _ _ _ _ _ us hl => match us, hl with | [_, _], _ => rfl
  obtain ⟨fd1, F1⟩ := c.def_ 1
  have F1 : FunD K "_law_low" "_law_low" (defArgs (top 50)) (defBody (top 50)) (defScope (top 50)) [] [] (He.ga K "_law_low") fd1 := F1
  have b1 := FunD.bindsN (ps := ["_law_top", "_law_bottom"]) F1 fun _ _ _ _ _ _ us hl => match us, hl with | [_, _], _ => rfl
  have ok1 := ok_law_low (P := P) (w := w) (mg := mg) (base := base) F1 Tx 
  have D_law_low : DefD (ct K) P w K mg base 1 "_law_low" false 2 s_law_low := ⟨⟨_, _, _, ok1, (PySem.W.mg_of X G (He.eqO_ok (okX.at h 24))), F1.kp, b1⟩, (fun _ _ => len_s_law_low)⟩
  have ok2 := ok_law_over (P := P) (w := w) (mg := mg) (base := base) F2 Tx D_law_low
  have D_law_over : DefD (ct K) P w K mg base 2 "_law_over" false 2 s_law_over := ⟨⟨_, _, _, ok2, (PySem.W.mg_of X G (He.eqO_ok (okX.at h 25))), F2.kp, b2⟩, (fun _ _ => len_s_law_over)⟩
  obtain ⟨fd50, F50⟩ := c.def_ 50
  have F50 : FunD K "_law_plus" "_law_plus" (defArgs (top 55)) (defBody (top 55)) (defScope (top 55)) [] [] (He.ga K "_law_plus") fd50 := F50
  have b50 := FunD.bindsN (ps := ["_law_one", "_law_other"]) F50 fun _ _ _ _ _ _ us hl => match us, hl with | [_, _], _ => rfl
  obtain ⟨fd6, F6⟩ := c.def_ 6
  have F6 : FunD K "_law_sum" "_law_sum" (defArgs (top 51)) (defBody (top 51)) (defScope (top 51)) [] [] (He.ga K "_law_sum") fd6 := F6
  have b6 := FunD.bindsN (ps := ["_law_one", "_law_other"]) F6 fun _ _ _ _ _ _ us hl => match us, hl with | [_, _], _ => rfl
  have ok6 := ok_law_sum (P := P) (w := w) (mg := mg) (base := base) F6 Tx D_law_low
  have D_law_sum : DefD (ct K) P w K mg base 2 "_law_sum" false 2 s_law_plus := ⟨⟨_, _, _, ok6, (PySem.W.mg_of X G (He.eqO_ok (okX.at h 29))), F6.kp, b6⟩, (fun _ _ => len_s_law_plus)⟩
  obtain ⟨fd0, F0⟩ := c.def_ 0
  have F0 : FunD K "_law_trim" "_law_trim" (defArgs (top 54)) (defBody (top 54)) (defScope (top 54)) [] [] (He.ga K "_law_trim") fd0 := F0
  have b0 := FunD.bindsN (ps := ["_law_poly"]) F0 fun _ _ _ _ _ _ us hl => match us, hl with | [_], _ => rfl
  have ok0 := ok_law_trim (P := P) (w := w) (mg := mg) (base := base) F0 Tx 
  have D_law_trim : DefD (ct K) P w K mg base 4 "_law_trim" false 1 s_law_trim_k41 := ⟨⟨_, _, _, ok0, (PySem.W.mg_of X G (He.eqO_ok (okX.at h 23))), F0.kp, b0⟩, (fun _ _ => len_s_law_trim_k41)⟩
  have ok50 := ok_law_plus (P := P) (w := w) (mg := mg) (base := base) F50 Tx D_law_sum D_law_trim
  have D_law_plus : DefD (ct K) P w K mg base 5 "_law_plus" false 2 s_law_plus_k42 := ⟨⟨_, _, _, ok50, (PySem.W.mg_of X G (He.eqO_ok (okX.at h 68))), F50.kp, b50⟩, (fun _ _ => len_s_law_plus_k42)⟩
  obtain ⟨fd51, F51⟩ := c.def_ 51
  have F51 : FunD K "_law_scaled" "_law_scaled" (defArgs (top 56)) (defBody (top 56)) (defScope (top 56)) [] [] (He.ga K "_law_scaled") fd51 := F51
  have b51 := FunD.bindsN (ps := ["_law_poly", "_law_number"]) F51 fun _ _ _ _ _ _ us hl => match us, hl with | [_, _], _ => rfl
  obtain ⟨fd7, F7⟩ := c.def_ 7
  have F7 : FunD K "_law_by" "_law_by" (defArgs (top 52)) (defBody (top 52)) (defScope (top 52)) [] [] (He.ga K "_law_by") fd7 := F7
  have b7 := FunD.bindsN (ps := ["_law_one", "_law_other"]) F7 fun _ _ _ _ _ _ us hl => match us, hl with | [_, _], _ => rfl
  have ok7 := ok_law_by (P := P) (w := w) (mg := mg) (base := base) F7 Tx D_law_low
  have D_law_by : DefD (ct K) P w K mg base 2 "_law_by" false 2 s_law_by := ⟨⟨_, _, _, ok7, (PySem.W.mg_of X G (He.eqO_ok (okX.at h 30))), F7.kp, b7⟩, (fun _ _ => len_s_law_by)⟩
  have ok51 := ok_law_scaled (P := P) (w := w) (mg := mg) (base := base) F51 Tx D_law_by D_law_trim
  have D_law_scaled : DefD (ct K) P w K mg base 5 "_law_scaled" false 2 s_law_scaled_k42 := ⟨⟨_, _, _, ok51, (PySem.W.mg_of X G (He.eqO_ok (okX.at h 69))), F51.kp, b51⟩, (fun _ _ => len_s_law_scaled_k42)⟩
  have ok52 := ok_law_divided (P := P) (w := w) (mg := mg) (base := base) F52 Tx D_law_over D_law_plus D_law_scaled D_law_trim
  have D_law_divided : DefD (ct K) P w K mg base 6 "_law_divided" false 2 s_law_divided := ⟨⟨_, _, _, ok52, (PySem.W.mg_of X G (He.eqO_ok (okX.at h 70))), F52.kp, b52⟩, (fun _ _ => len_s_law_divided)⟩
  obtain ⟨fd4, F4⟩ := c.def_ 4
  have F4 : FunD K "_law_plain" "_law_plain" (defArgs (top 63)) (defBody (top 63)) (defScope (top 63)) [] [] (He.ga K "_law_plain") fd4 := F4
  have b4 := FunD.bindsN (ps := ["_law_form_here"]) F4 fun _ _ _ _ _ _ us hl => match us, hl with | [_], _ => rfl
  have ok4 := ok_law_plain (P := P) (w := w) (mg := mg) (base := base) F4 Tx D_law_trim
  have D_law_plain : DefD (ct K) P w K mg base 5 "_law_plain" false 1 s_law_plain := ⟨⟨_, _, _, ok4, (PySem.W.mg_of X G (He.eqO_ok (okX.at h 27))), F4.kp, b4⟩, (fun _ _ => len_s_law_plain)⟩
  have ok53 := ok_law_goes_in (P := P) (w := w) (mg := mg) (base := base) F53 Tx D_law_divided D_law_plain
  have D_law_goes_in : DefD (ct K) P w K mg base 7 "_law_goes_in" false 2 s_law_goes_in := ⟨⟨_, _, _, ok53, (PySem.W.mg_of X G (He.eqO_ok (okX.at h 71))), F53.kp, b53⟩, (fun _ _ => len_s_law_goes_in)⟩
  obtain ⟨fd49, F49⟩ := c.def_ 49
  have F49 : FunD K "_law_rest" "_law_rest" (defArgs (top 70)) (defBody (top 70)) (defScope (top 70)) [] [] (He.ga K "_law_rest") fd49 := F49
  have b49 := FunD.bindsN (ps := ["_law_form_here", "_law_other"]) F49 fun _ _ _ _ _ _ us hl => match us, hl with | [_, _], _ => rfl
  obtain ⟨fd45, F45⟩ := c.def_ 45
  have F45 : FunD K "rest_form" "rest_form" (defArgs (top 45)) (defBody (top 45)) (defScope (top 45)) [] [] (He.ga K "rest_form") fd45 := F45
  have b45 := FunD.bindsN (ps := ["form", "other"]) F45 fun _ _ _ _ _ _ us hl => match us, hl with | [_, _], _ => rfl
  obtain ⟨fd42, F42⟩ := c.def_ 42
  have F42 : FunD K "rest_shape" "rest_shape" (defArgs (top 37)) (defBody (top 37)) (defScope (top 37)) [] [] (He.ga K "rest_shape") fd42 := F42
  have b42 := FunD.bindsN (ps := ["shape", "other"]) F42 fun _ _ _ _ _ _ us hl => match us, hl with | [_, _], _ => rfl
  obtain ⟨fd25, F25⟩ := c.def_ 25
  have F25 : FunD K "bare" "bare" (defArgs (top 6)) (defBody (top 6)) (defScope (top 6)) [] [] (He.ga K "bare") fd25 := F25
  have b25 := FunD.bindsN (ps := ["numbers"]) F25 fun _ _ _ _ _ _ us hl => match us, hl with | [_], _ => rfl
  obtain ⟨fd24, F24⟩ := c.def_ 24
  have F24 : FunD K "negated" "negated" (defArgs (top 7)) (defBody (top 7)) (defScope (top 7)) [] [] (He.ga K "negated") fd24 := F24
  have b24 := FunD.bindsN (ps := ["poly"]) F24 fun _ _ _ _ _ _ us hl => match us, hl with | [_], _ => rfl
  have ok24 := ok_negated (P := P) (w := w) (mg := mg) (base := base) F24 Tx 
  have D_negated : DefD (ct K) P w K mg base 1 "negated" false 1 s_negated := ⟨⟨_, _, _, ok24, (PySem.W.mg_of X G (He.eqO_ok (okX.at h 46))), F24.kp, b24⟩, (fun _ _ => len_s_negated)⟩
  obtain ⟨fd19, F19⟩ := c.def_ 19
  have F19 : FunD K "trimmed" "trimmed" (defArgs (top 3)) (defBody (top 3)) (defScope (top 3)) [] [] (He.ga K "trimmed") fd19 := F19
  have b19 := FunD.bindsN (ps := ["numbers"]) F19 fun _ _ _ _ _ _ us hl => match us, hl with | [_], _ => rfl
  have ok19 := ok_trimmed (P := P) (w := w) (mg := mg) (base := base) F19 Tx 
  have D_trimmed : DefD (ct K) P w K mg base 4 "trimmed" false 1 s_trimmed := ⟨⟨_, _, _, ok19, (PySem.W.mg_of X G (He.eqO_ok (okX.at h 41))), F19.kp, b19⟩, (fun _ _ => len_s_trimmed)⟩
  obtain ⟨fd23, F23⟩ := c.def_ 23
  have F23 : FunD K "without_content" "without_content" (defArgs (top 5)) (defBody (top 5)) (defScope (top 5)) [] [] (He.ga K "without_content") fd23 := F23
  have b23 := FunD.bindsN (ps := ["numbers"]) F23 fun _ _ _ _ _ _ us hl => match us, hl with | [_], _ => rfl
  obtain ⟨fd22, F22⟩ := c.def_ 22
  have F22 : FunD K "content" "content" (defArgs (top 4)) (defBody (top 4)) (defScope (top 4)) [] [] (He.ga K "content") fd22 := F22
  have b22 := FunD.bindsN (ps := ["numbers"]) F22 fun _ _ _ _ _ _ us hl => match us, hl with | [_], _ => rfl
  have ok22 := ok_content (P := P) (w := w) (mg := mg) (base := base) F22 Tx 
  have D_content : DefD (ct K) P w K mg base 4 "content" false 1 s_content := ⟨⟨_, _, _, ok22, (PySem.W.mg_of X G (He.eqO_ok (okX.at h 44))), F22.kp, b22⟩, (fun _ _ => len_s_content)⟩
  have ok23 := ok_without_content (P := P) (w := w) (mg := mg) (base := base) F23 Tx D_content
  have D_without_content : DefD (ct K) P w K mg base 5 "without_content" false 1 s_without_content := ⟨⟨_, _, _, ok23, (PySem.W.mg_of X G (He.eqO_ok (okX.at h 45))), F23.kp, b23⟩, (fun _ _ => len_s_without_content)⟩
  have ok25 := ok_bare (P := P) (w := w) (mg := mg) (base := base) F25 Tx D_negated D_trimmed D_without_content
  have D_bare : DefD (ct K) P w K mg base 6 "bare" false 1 s_bare := ⟨⟨_, _, _, ok25, (PySem.W.mg_of X G (He.eqO_ok (okX.at h 47))), F25.kp, b25⟩, (fun _ _ => len_s_bare)⟩
  obtain ⟨fd41, F41⟩ := c.def_ 41
  have F41 : FunD K "divided_bare" "divided_bare" (defArgs (top 10)) (defBody (top 10)) (defScope (top 10)) [] [] (He.ga K "divided_bare") fd41 := F41
  have b41 := FunD.bindsN (ps := ["poly", "other"]) F41 fun _ _ _ _ _ _ us hl => match us, hl with | [_, _], _ => rfl
  obtain ⟨fd40, F40⟩ := c.def_ 40
  have F40 : FunD K "scaled_by" "scaled_by" (defArgs (top 8)) (defBody (top 8)) (defScope (top 8)) [] [] (He.ga K "scaled_by") fd40 := F40
  have b40 := FunD.bindsN (ps := ["poly", "number"]) F40 fun _ _ _ _ _ _ us hl => match us, hl with | [_, _], _ => rfl
  have ok40 := ok_scaled_by (P := P) (w := w) (mg := mg) (base := base) F40 Tx 
  have D_scaled_by : DefD (ct K) P w K mg base 4 "scaled_by" false 2 s_scaled_by := ⟨⟨_, _, _, ok40, (PySem.W.mg_of X G (He.eqO_ok (okX.at h 60))), F40.kp, b40⟩, (fun _ _ => len_s_scaled_by)⟩
  have ok41 := ok_divided_bare (P := P) (w := w) (mg := mg) (base := base) F41 Tx D_scaled_by D_trimmed
  have D_divided_bare : DefD (ct K) P w K mg base 5 "divided_bare" false 2 s_divided_bare := ⟨⟨_, _, _, ok41, (PySem.W.mg_of X G (He.eqO_ok (okX.at h 61))), F41.kp, b41⟩, (fun _ _ => len_s_divided_bare)⟩
  obtain ⟨fd34, F34⟩ := c.def_ 34
  have F34 : FunD K "noughts_behind" "noughts_behind" (defArgs (top 36)) (defBody (top 36)) (defScope (top 36)) [] [] (He.ga K "noughts_behind") fd34 := F34
  have b34 := FunD.bindsN (ps := ["shape"]) F34 fun _ _ _ _ _ _ us hl => match us, hl with | [_], _ => rfl
  have ok34 := ok_noughts_behind (P := P) (w := w) (mg := mg) (base := base) F34 Tx D_trimmed
  have D_noughts_behind : DefD (ct K) P w K mg base 5 "noughts_behind" false 1 s_noughts_behind := ⟨⟨_, _, _, ok34, (PySem.W.mg_of X G (He.eqO_ok (okX.at h 56))), F34.kp, b34⟩, (fun _ _ => len_s_noughts_behind)⟩
  have ok42 := ok_rest_shape (P := P) (w := w) (mg := mg) (base := base) F42 Tx D_bare D_divided_bare D_noughts_behind D_trimmed
  have D_rest_shape : DefD (ct K) P w K mg base 7 "rest_shape" false 2 s_rest_shape := ⟨⟨_, _, _, ok42, (PySem.W.mg_of X G (He.eqO_ok (okX.at h 62))), F42.kp, b42⟩, (fun _ _ => len_s_rest_shape)⟩
  obtain ⟨fd33, F33⟩ := c.def_ 33
  have F33 : FunD K "shape_of" "shape_of" (defArgs (top 41)) (defBody (top 41)) (defScope (top 41)) [] [] (He.ga K "shape_of") fd33 := F33
  have b33 := FunD.bindsN (ps := ["form"]) F33 fun _ _ _ _ _ _ us hl => match us, hl with | [_], _ => rfl
  obtain ⟨fd31, F31⟩ := c.def_ 31
  have F31 : FunD K "cleared" "cleared" (defArgs (top 26)) (defBody (top 26)) (defScope (top 26)) [] [] (He.ga K "cleared") fd31 := F31
  have b31 := FunD.bindsN (ps := ["numbers"]) F31 fun _ _ _ _ _ _ us hl => match us, hl with | [_], _ => rfl
  obtain ⟨fd30, F30⟩ := c.def_ 30
  have F30 : FunD K "pair_of" "pair_of" (defArgs (top 25)) (defBody (top 25)) (defScope (top 25)) [] [] (He.ga K "pair_of") fd30 := F30
  have b30 := FunD.bindsN (ps := ["number"]) F30 fun _ _ _ _ _ _ us hl => match us, hl with | [_], _ => rfl
  obtain ⟨fd29, F29⟩ := c.def_ 29
  have F29 : FunD K "need_number" "need_number" (defArgs (top 24)) (defBody (top 24)) (defScope (top 24)) [] [] (He.ga K "need_number") fd29 := F29
  have b29 := FunD.bindsN (ps := ["value"]) F29 fun _ _ _ _ _ _ us hl => match us, hl with | [_], _ => rfl
  obtain ⟨fd27, F27⟩ := c.def_ 27
  have F27 : FunD K "is_number" "is_number" (defArgs (top 23)) (defBody (top 23)) (defScope (top 23)) [] [] (He.ga K "is_number") fd27 := F27
  have b27 := FunD.bindsN (ps := ["value"]) F27 fun _ _ _ _ _ _ us hl => match us, hl with | [_], _ => rfl
  have ok27 := ok_is_number (P := P) (w := w) (mg := mg) (base := base) F27 Tx D_is_integer
  have D_is_number : DefD (ct K) P w K mg base 2 "is_number" false 1 s_is_number := ⟨⟨_, _, _, ok27, (PySem.W.mg_of X G (He.eqO_ok (okX.at h 49))), F27.kp, b27⟩, (fun _ _ => len_s_is_number)⟩
  have ok29 := ok_need_number (P := P) (w := w) (mg := mg) (base := base) F29 Tx D_is_number
  have D_need_number : DefD (ct K) P w K mg base 3 "need_number" false 1 s_need_number := ⟨⟨_, _, _, ok29, (PySem.W.mg_of X G (He.eqO_ok (okX.at h 51))), F29.kp, b29⟩, (fun _ _ => len_s_need_number)⟩
  have ok30 := ok_pair_of (P := P) (w := w) (mg := mg) (base := base) F30 Tx D_need_number
  have D_pair_of : DefD (ct K) P w K mg base 4 "pair_of" false 1 s_pair_of := ⟨⟨_, _, _, ok30, (PySem.W.mg_of X G (He.eqO_ok (okX.at h 52))), F30.kp, b30⟩, (fun _ _ => len_s_pair_of)⟩
  have ok31 := ok_cleared (P := P) (w := w) (mg := mg) (base := base) F31 Tx D_pair_of
  have D_cleared : DefD (ct K) P w K mg base 5 "cleared" false 1 s_cleared := ⟨⟨_, _, _, ok31, (PySem.W.mg_of X G (He.eqO_ok (okX.at h 53))), F31.kp, b31⟩, (fun _ _ => len_s_cleared)⟩
  obtain ⟨fd32, F32⟩ := c.def_ 32
  have F32 : FunD K "is_form" "is_form" (defArgs (top 40)) (defBody (top 40)) (defScope (top 40)) [] [] (He.ga K "is_form") fd32 := F32
  have b32 := FunD.bindsN (ps := ["value"]) F32 fun _ _ _ _ _ _ us hl => match us, hl with | [_], _ => rfl
  obtain ⟨fd28, F28⟩ := c.def_ 28
  have F28 : FunD K "is_poly" "is_poly" (defArgs (top 31)) (defBody (top 31)) (defScope (top 31)) [] [] (He.ga K "is_poly") fd28 := F28
  have b28 := FunD.bindsN (ps := ["value"]) F28 fun _ _ _ _ _ _ us hl => match us, hl with | [_], _ => rfl
  have ok28 := ok_is_poly (P := P) (w := w) (mg := mg) (base := base) F28 Tx D_is_number
  have D_is_poly : DefD (ct K) P w K mg base 3 "is_poly" false 1 s_is_poly := ⟨⟨_, _, _, ok28, (PySem.W.mg_of X G (He.eqO_ok (okX.at h 50))), F28.kp, b28⟩, (fun _ _ => len_s_is_poly)⟩
  have ok32 := ok_is_form (P := P) (w := w) (mg := mg) (base := base) F32 Tx D_cleared D_is_poly
  have D_is_form : DefD (ct K) P w K mg base 6 "is_form" false 1 s_is_form := ⟨⟨_, _, _, ok32, (PySem.W.mg_of X G (He.eqO_ok (okX.at h 54))), F32.kp, b32⟩, (fun _ _ => len_s_is_form)⟩
  obtain ⟨fd26, F26⟩ := c.def_ 26
  have F26 : FunD K "shaped" "shaped" (defArgs (top 34)) (defBody (top 34)) (defScope (top 34)) [] [] (He.ga K "shaped") fd26 := F26
  have b26 := FunD.bindsN (ps := ["numbers"]) F26 fun _ _ _ _ _ _ us hl => match us, hl with | [_], _ => rfl
  obtain ⟨fd21, F21⟩ := c.def_ 21
  have F21 : FunD K "padded" "padded" (defArgs (top 33)) (defBody (top 33)) (defScope (top 33)) [] [] (He.ga K "padded") fd21 := F21
  have b21 := FunD.bindsN (ps := ["poly", "many"]) F21 fun _ _ _ _ _ _ us hl => match us, hl with | [_, _], _ => rfl
  have ok21 := ok_padded (P := P) (w := w) (mg := mg) (base := base) F21 Tx 
  have D_padded : DefD (ct K) P w K mg base 1 "padded" false 2 s_padded := ⟨⟨_, _, _, ok21, (PySem.W.mg_of X G (He.eqO_ok (okX.at h 43))), F21.kp, b21⟩, (fun _ _ => len_s_padded)⟩
  have ok26 := ok_shaped (P := P) (w := w) (mg := mg) (base := base) F26 Tx D_bare D_padded
  have D_shaped : DefD (ct K) P w K mg base 7 "shaped" false 1 s_shaped := ⟨⟨_, _, _, ok26, (PySem.W.mg_of X G (He.eqO_ok (okX.at h 48))), F26.kp, b26⟩, (fun _ _ => len_s_shaped)⟩
  have ok33 := ok_shape_of (P := P) (w := w) (mg := mg) (base := base) F33 Tx D_cleared D_is_form D_shaped
  have D_shape_of : DefD (ct K) P w K mg base 8 "shape_of" false 1 s_shape_of := ⟨⟨_, _, _, ok33, (PySem.W.mg_of X G (He.eqO_ok (okX.at h 55))), F33.kp, b33⟩, (fun _ _ => len_s_shape_of)⟩
  obtain ⟨fd20, F20⟩ := c.def_ 20
  have F20 : FunD K "told_shape" "told_shape" (defArgs (top 35)) (defBody (top 35)) (defScope (top 35)) [] [] (He.ga K "told_shape") fd20 := F20
  have b20 := FunD.bindsN (ps := ["shape"]) F20 fun _ _ _ _ _ _ us hl => match us, hl with | [_], _ => rfl
  obtain ⟨fd18, F18⟩ := c.def_ 18
  have F18 : FunD K "ratios_over" "ratios_over" (defArgs (top 27)) (defBody (top 27)) (defScope (top 27)) [] [] (He.ga K "ratios_over") fd18 := F18
  have b18 := FunD.bindsN (ps := ["integers", "below"]) F18 fun _ _ _ _ _ _ us hl => match us, hl with | [_, _], _ => rfl
  have ok18 := ok_ratios_over (P := P) (w := w) (mg := mg) (base := base) F18 Tx M_Ratio2
  have D_ratios_over : DefD (ct K) P w K mg base 6 "ratios_over" true 2 s_ratios_over := ⟨⟨_, _, _, ok18, (PySem.W.mg_of X G (He.eqO_ok (okX.at h 40))), F18.kp, b18⟩, (fun _ _ => len_s_ratios_over)⟩
  have ok20 := ok_told_shape (P := P) (w := w) (mg := mg) (base := base) F20 Tx D_ratios_over D_trimmed
  have D_told_shape : DefD (ct K) P w K mg base 7 "told_shape" true 1 s_told_shape := ⟨⟨_, _, _, ok20, (PySem.W.mg_of X G (He.eqO_ok (okX.at h 42))), F20.kp, b20⟩, (fun _ _ => len_s_told_shape)⟩
  have XC_NotDivided : ExcC K mg "NotDivided" (He.ga K "NotDivided") [.type "RuntimeError", .type "Exception", .type "BaseException", .type "object"] "RuntimeError.__new__" := ⟨(PySem.W.mg_of X G (He.eqO_ok (okX.at h 124))), (okX.at h 125), (okX.at h 126), (of_decide_eq_true (okX.at h 127)), (of_decide_eq_true (okX.at h 128)), (of_decide_eq_true (okX.at h 129))⟩
  have okx45 := okX_rest_form (P := P) (w := w) (mg := mg) (base := base) (He5.fun_of F45) Tx D_rest_shape D_shape_of D_told_shape XC_NotDivided
  have DX_rest_form : DefDX (ct K) P w K mg base 9 "rest_form" (He.ga K "NotDivided") 2 sx_rest_form := ⟨⟨_, _, _, okx45, (PySem.W.mg_of X G (He.eqO_ok (okX.at h 65))), F45.kp, b45⟩, fun _ _ => len_sx_rest_form⟩
  have ok49 := ok_law_rest (P := P) (w := w) (mg := mg) (base := base) F49 Tx DX_rest_form XC_NotDivided
  have D_law_rest : DefD (ct K) P w K mg base 10 "_law_rest" false 2 s_law_rest := ⟨⟨_, _, _, ok49, (PySem.W.mg_of X G (He.eqO_ok (okX.at h 67))), F49.kp, b49⟩, (fun _ _ => len_s_law_rest)⟩
  obtain ⟨fd54, F54⟩ := c.def_ 54
  have F54 : FunD K "are_like" "are_like" (defArgs (top 42)) (defBody (top 42)) (defScope (top 42)) [] [] (He.ga K "are_like") fd54 := F54
  have b54 := FunD.bindsN (ps := ["form", "other"]) F54 fun _ _ _ _ _ _ us hl => match us, hl with | [_, _], _ => rfl
  have ok54 := ok_are_like (P := P) (w := w) (mg := mg) (base := base) F54 Tx D_shape_of
  have D_are_like : DefD (ct K) P w K mg base 9 "are_like" false 2 s_are_like := ⟨⟨_, _, _, ok54, (PySem.W.mg_of X G (He.eqO_ok (okX.at h 72))), F54.kp, b54⟩, (fun _ _ => len_s_are_like)⟩
  obtain ⟨fd44, F44⟩ := c.def_ 44
  have F44 : FunD K "divides" "divides" (defArgs (top 44)) (defBody (top 44)) (defScope (top 44)) [] [] (He.ga K "divides") fd44 := F44
  have b44 := FunD.bindsN (ps := ["form", "other"]) F44 fun _ _ _ _ _ _ us hl => match us, hl with | [_, _], _ => rfl
  obtain ⟨fd43, F43⟩ := c.def_ 43
  have F43 : FunD K "is_shape_divider" "is_shape_divider" (defArgs (top 38)) (defBody (top 38)) (defScope (top 38)) [] [] (He.ga K "is_shape_divider") fd43 := F43
  have b43 := FunD.bindsN (ps := ["shape", "other"]) F43 fun _ _ _ _ _ _ us hl => match us, hl with | [_, _], _ => rfl
  have ok43 := ok_is_shape_divider (P := P) (w := w) (mg := mg) (base := base) F43 Tx D_rest_shape
  have D_is_shape_divider : DefD (ct K) P w K mg base 8 "is_shape_divider" false 2 s_is_shape_divider := ⟨⟨_, _, _, ok43, (PySem.W.mg_of X G (He.eqO_ok (okX.at h 63))), F43.kp, b43⟩, (fun _ _ => len_s_is_shape_divider)⟩
  have ok44 := ok_divides (P := P) (w := w) (mg := mg) (base := base) F44 Tx D_is_shape_divider D_shape_of
  have D_divides : DefD (ct K) P w K mg base 9 "divides" false 2 s_divides := ⟨⟨_, _, _, ok44, (PySem.W.mg_of X G (He.eqO_ok (okX.at h 64))), F44.kp, b44⟩, (fun _ _ => len_s_divides)⟩
  obtain ⟨fd36, F36⟩ := c.def_ 36
  have F36 : FunD K "product" "product" (defArgs (top 43)) (defBody (top 43)) (defScope (top 43)) [] [] (He.ga K "product") fd36 := F36
  have b36 := FunD.bindsN (ps := ["form", "other"]) F36 fun _ _ _ _ _ _ us hl => match us, hl with | [_, _], _ => rfl
  obtain ⟨fd35, F35⟩ := c.def_ 35
  have F35 : FunD K "multiplied" "multiplied" (defArgs (top 9)) (defBody (top 9)) (defScope (top 9)) [] [] (He.ga K "multiplied") fd35 := F35
  have b35 := FunD.bindsN (ps := ["first", "second"]) F35 fun _ _ _ _ _ _ us hl => match us, hl with | [_, _], _ => rfl
  have ok35 := ok_multiplied (P := P) (w := w) (mg := mg) (base := base) F35 Tx 
  have D_multiplied : DefD (ct K) P w K mg base 1 "multiplied" false 2 s_multiplied := ⟨⟨_, _, _, ok35, (PySem.W.mg_of X G (He.eqO_ok (okX.at h 57))), F35.kp, b35⟩, (fun _ _ => len_s_multiplied)⟩
  have ok36 := ok_product (P := P) (w := w) (mg := mg) (base := base) F36 Tx D_multiplied D_noughts_behind D_shape_of D_told_shape D_trimmed
  have D_product : DefD (ct K) P w K mg base 9 "product" true 2 s_product := ⟨⟨_, _, _, ok36, (PySem.W.mg_of X G (He.eqO_ok (okX.at h 58))), F36.kp, b36⟩, (fun _ _ => len_s_product)⟩
  have K_divides_other_form : DefK (ct K) P w K mg base 9 "divides" false 0 ["other", "form"] [1, 0] 2 s_divides := ⟨⟨_, _, ["form", "other"], ok44, (PySem.W.mg_of X G (He.eqO_ok (okX.at h 64))), F44.kp, kwf_of F44 fun _ _ _ _ _ _ ws hl => match ws, hl with | [_, _], _ => rfl⟩, (fun _ _ => len_s_divides)⟩
  obtain ⟨fd46, F46⟩ := c.def_ 46
  have F46 : FunD K "__eq__" "Ratio.__eq__" (defArgs (cm 22 16)) (defBody (cm 22 16)) (defScope (cm 22 16)) [] [] (He.ma K (rc K) "__eq__") fd46 := F46
  have b46 := FunD.bindsN (ps := ["self", "other"]) F46 fun _ _ _ _ _ _ us hl => match us, hl with | [_, _], _ => rfl
  have ok46 := ok_Ratio_eq (P := P) (w := w) (mg := mg) (base := base) F46 Tx 
  have eqf0 : EqF K ((ct K).at_ 0) (He.ma K (rc K) "__eq__") := ⟨(He.eqO_ok (okX.at h 115)), (okX.at h 116), (He.eqO_ok (okX.at h 117)), (of_decide_eq_true (okX.at h 86)), (by
      intro T hT
      simp only [List.mem_cons, List.not_mem_nil, or_false] at hT
      rcases hT with rfl | rfl | rfl
      · exact (of_decide_eq_true (okX.at h 118))
      · exact (of_decide_eq_true (okX.at h 119))
      · exact (of_decide_eq_true (okX.at h 120))), (of_decide_eq_true (okX.at h 121))⟩
  have E1 : EqsB (ct K) P w K mg base 4 ownE := ⟨(by
      intro c hc
      have hc : c < 1 := hc
      match c, hc with
      | 0, _ => exact .inr ⟨_, _, _, _, eqf0, ok46.mono (by decide), b46⟩
      | c + 1, hc => exact absurd hc (by omega)), Ml.same_ownE, Tx.inj, Tx.sub2⟩
  obtain ⟨fd47, F47⟩ := c.def_ 47
  have F47 : FunD K "__repr__" "Ratio.__repr__" (defArgs (cm 22 18)) (defBody (cm 22 18)) (defScope (cm 22 18)) [] [] (He.ma K (rc K) "__repr__") fd47 := F47
  have b47 := FunD.bindsN (ps := ["self"]) F47 fun _ _ _ _ _ _ us hl => match us, hl with | [_], _ => rfl
  have ok47 := ok_Ratio_repr (P := P) (w := w) (mg := mg) (base := base) F47 Tx 
  have RT : TxtB (ct K) P w K mg base 1 ownT := ⟨(by
      intro c hc
      have hc : c < 1 := hc
      match c, hc with
      | 0, _ => exact .inr ⟨_, _, _, _, (He.eqO_ok (okX.at h 122)), (okX.at h 123), (FnOk.imp ok47 fun vs H Q E ⟨W, ds, R, hx, hl, hI, ⟨l, t, e, ht, hR⟩, q⟩ => ⟨W, ds, R, hx, hl, hI, by rw [e]; exact Ml.own_repr ht hR, q⟩).mono (by decide), b47⟩
      | c + 1, hc => exact absurd hc (by omega)), Tx.inj⟩
  have ok55 := ok_law_any_right (P := P) (w := w) (mg := mg) (base := base) (He5.fun_of F55) Tx D_law_given_form D_law_goes_in D_law_rest D_are_like D_divides D_product K_divides_other_form E1 RT
  have D_law_any_right : DefDG (ct K) P w K mg base 11 "_law_any_right" false 3 s_law_any_right := ⟨⟨_, _, _, ok55, (PySem.W.mg_of X G (He.eqO_ok (okX.at h 73))), F55.kp, b55⟩, (fun _ _ => len_s_law_any_right)⟩
  obtain ⟨fd17, F17⟩ := c.def_ 17
  have F17 : FunD K "_law_form" "_law_form" (defArgs (top 68)) (defBody (top 68)) (defScope (top 68)) [] [] (He.ga K "_law_form") fd17 := F17
  have b17 := FunD.bindsN (ps := ["_law_pot_here", "_law_many"]) F17 fun _ _ _ _ _ _ us hl => match us, hl with | [_, _], _ => rfl
  obtain ⟨fd16, F16⟩ := c.def_ 16
  have F16 : FunD K "_law_standing" "_law_standing" (defArgs (top 62)) (defBody (top 62)) (defScope (top 62)) [] [] (He.ga K "_law_standing") fd16 := F16
  have b16 := FunD.bindsN (ps := ["_law_pot_here", "_law_many"]) F16 fun _ _ _ _ _ _ us hl => match us, hl with | [_, _], _ => rfl
  obtain ⟨fd15, F15⟩ := c.def_ 15
  have F15 : FunD K "_law_entry" "_law_entry" (defArgs (top 61)) (defBody (top 61)) (defScope (top 61)) [] [] (He.ga K "_law_entry") fd15 := F15
  have b15 := FunD.bindsN (ps := ["_law_pot_here"]) F15 fun _ _ _ _ _ _ us hl => match us, hl with | [_], _ => rfl
  obtain ⟨fd14, F14⟩ := c.def_ 14
  have F14 : FunD K "_law_pick" "_law_pick" (defArgs (top 49)) (defBody (top 49)) (defScope (top 49)) [] [] (He.ga K "_law_pick") fd14 := F14
  have b14 := FunD.bindsN (ps := ["_law_pot_here", "_law_some"]) F14 fun _ _ _ _ _ _ us hl => match us, hl with | [_, _], _ => rfl
  have ok14 := ok_law_pick (P := P) (w := w) (mg := mg) (base := base) F14 Tx D_law_draw
  have D_law_pick : DefD (ct K) P w K mg base 2 "_law_pick" false 2 s_law_pick := ⟨⟨_, _, _, ok14, (PySem.W.mg_of X G (He.eqO_ok (okX.at h 36))), F14.kp, b14⟩, (fun _ _ => len_s_law_pick)⟩
  have ok15 := ok_law_entry (P := P) (w := w) (mg := mg) (base := base) F15 Tx D_law_pick
  have D_law_entry : DefD (ct K) P w K mg base 3 "_law_entry" false 1 s_law_entry := ⟨⟨_, _, _, ok15, (PySem.W.mg_of X G (He.eqO_ok (okX.at h 37))), F15.kp, b15⟩, (fun _ _ => len_s_law_entry)⟩
  have ok16 := ok_law_standing (P := P) (w := w) (mg := mg) (base := base) F16 Tx D_law_draw D_law_entry D_law_pick
  have D_law_standing : DefD (ct K) P w K mg base 4 "_law_standing" false 2 s_law_standing_k41 := ⟨⟨_, _, _, ok16, (PySem.W.mg_of X G (He.eqO_ok (okX.at h 38))), F16.kp, b16⟩, (fun _ _ => len_s_law_standing_k41)⟩
  have ok17 := ok_law_form (P := P) (w := w) (mg := mg) (base := base) F17 Tx D_law_draw D_law_standing
  have D_law_form : DefD (ct K) P w K mg base 5 "_law_form" false 2 s_law_form_k42 := ⟨⟨_, _, _, ok17, (PySem.W.mg_of X G (He.eqO_ok (okX.at h 39))), F17.kp, b17⟩, (fun _ _ => len_s_law_form_k42)⟩
  obtain ⟨fd9, F9⟩ := c.def_ 9
  have F9 : FunD K "_law_formed" "_law_formed" (defArgs (top 66)) (defBody (top 66)) (defScope (top 66)) [] [] (He.ga K "_law_formed") fd9 := F9
  have b9 := FunD.bindsN (ps := ["_law_one", "_law_other"]) F9 fun _ _ _ _ _ _ us hl => match us, hl with | [_, _], _ => rfl
  obtain ⟨fd5, F5⟩ := c.def_ 5
  have F5 : FunD K "_law_filled" "_law_filled" (defArgs (top 64)) (defBody (top 64)) (defScope (top 64)) [] [] (He.ga K "_law_filled") fd5 := F5
  have b5 := FunD.bindsN (ps := ["_law_poly", "_law_degree"]) F5 fun _ _ _ _ _ _ us hl => match us, hl with | [_, _], _ => rfl
  have ok5 := ok_law_filled (P := P) (w := w) (mg := mg) (base := base) F5 Tx 
  have D_law_filled : DefD (ct K) P w K mg base 1 "_law_filled" false 2 s_law_filled := ⟨⟨_, _, _, ok5, (PySem.W.mg_of X G (He.eqO_ok (okX.at h 28))), F5.kp, b5⟩, (fun _ _ => len_s_law_filled)⟩
  obtain ⟨fd3, F3⟩ := c.def_ 3
  have F3 : FunD K "_law_headed" "_law_headed" (defArgs (top 65)) (defBody (top 65)) (defScope (top 65)) [] [] (He.ga K "_law_headed") fd3 := F3
  have b3 := FunD.bindsN (ps := ["_law_form_here"]) F3 fun _ _ _ _ _ _ us hl => match us, hl with | [_], _ => rfl
  have ok3 := ok_law_headed (P := P) (w := w) (mg := mg) (base := base) F3 Tx D_law_over D_law_trim
  have D_law_headed : DefD (ct K) P w K mg base 5 "_law_headed" false 1 s_law_headed := ⟨⟨_, _, _, ok3, (PySem.W.mg_of X G (He.eqO_ok (okX.at h 26))), F3.kp, b3⟩, (fun _ _ => len_s_law_headed)⟩
  obtain ⟨fd8, F8⟩ := c.def_ 8
  have F8 : FunD K "_law_times" "_law_times" (defArgs (top 57)) (defBody (top 57)) (defScope (top 57)) [] [] (He.ga K "_law_times") fd8 := F8
  have b8 := FunD.bindsN (ps := ["_law_one", "_law_other"]) F8 fun _ _ _ _ _ _ us hl => match us, hl with | [_, _], _ => rfl
  have ok8 := ok_law_times (P := P) (w := w) (mg := mg) (base := base) F8 Tx D_law_by D_law_sum D_law_trim
  have D_law_times : DefD (ct K) P w K mg base 5 "_law_times" false 2 s_law_times_k42 := ⟨⟨_, _, _, ok8, (PySem.W.mg_of X G (He.eqO_ok (okX.at h 31))), F8.kp, b8⟩, (fun _ _ => len_s_law_times_k42)⟩
  have ok9 := ok_law_formed (P := P) (w := w) (mg := mg) (base := base) F9 Tx D_law_filled D_law_headed D_law_plain D_law_times
  have D_law_formed : DefD (ct K) P w K mg base 6 "_law_formed" false 2 s_law_formed := ⟨⟨_, _, _, ok9, (PySem.W.mg_of X G (He.eqO_ok (okX.at h 32))), F9.kp, b9⟩, (fun _ _ => len_s_law_formed)⟩
  obtain ⟨fd39, F39⟩ := c.def_ 39
  have F39 : FunD K "_law_told" "_law_told" (defArgs (top 60)) (defBody (top 60)) (defScope (top 60)) [] [] (He.ga K "_law_told") fd39 := F39
  have b39 := FunD.bindsN (ps := ["_law_value"]) F39 fun _ _ _ _ _ _ us hl => match us, hl with | [_], _ => rfl
  obtain ⟨fd38, F38⟩ := c.def_ 38
  have F38 : FunD K "bottom" "Ratio.bottom" (defArgs (cm 22 2)) (defBody (cm 22 2)) (defScope (cm 22 2)) [] [] (He5.wf K (rc K) "property" "bottom") fd38 := F38
  have b38 := FunD.bindsN (ps := ["self"]) F38 fun _ _ _ _ _ _ us hl => match us, hl with | [_], _ => rfl
  have ok38 := ok_Ratio_bottom (P := P) (w := w) (mg := mg) (base := base) F38 Tx 
  have P_Ratio_bottom : PropD (ct K) P w K mg base 1 0 "bottom" false s_Ratio_bottom := ⟨_, _, _, _, ok38, ⟨(He.eqO_ok (okX.at h 111)), (He.eqO_ok (okX.at h 112)), (of_decide_eq_true (okX.at h 113)), rec_of (okX.at h 114)⟩, b38⟩
  obtain ⟨fd37, F37⟩ := c.def_ 37
  have F37 : FunD K "top" "Ratio.top" (defArgs (cm 22 1)) (defBody (cm 22 1)) (defScope (cm 22 1)) [] [] (He5.wf K (rc K) "property" "top") fd37 := F37
  have b37 := FunD.bindsN (ps := ["self"]) F37 fun _ _ _ _ _ _ us hl => match us, hl with | [_], _ => rfl
  have ok37 := ok_Ratio_top (P := P) (w := w) (mg := mg) (base := base) F37 Tx 
  have P_Ratio_top : PropD (ct K) P w K mg base 1 0 "top" false s_Ratio_top := ⟨_, _, _, _, ok37, ⟨(He.eqO_ok (okX.at h 107)), (He.eqO_ok (okX.at h 108)), (of_decide_eq_true (okX.at h 109)), rec_of (okX.at h 110)⟩, b37⟩
  have ok39 := ok_law_told (P := P) (w := w) (mg := mg) (base := base) F39 Tx P_Ratio_bottom P_Ratio_top
  have D_law_told : DefD (ct K) P w K mg base 3 "_law_told" false 1 s_law_told := ⟨⟨_, _, _, ok39, (PySem.W.mg_of X G (He.eqO_ok (okX.at h 59))), F39.kp, b39⟩, (fun _ _ => len_s_law_told)⟩
  obtain ⟨fd48, F48⟩ := c.def_ 48
  have F48 : FunD K "_law_two_right" "_law_two_right" (defArgs (top 71)) (defBody (top 71)) (defScope (top 71)) [] [] (He.ga K "_law_two_right") fd48 := F48
  have b48 := FunD.bindsN (ps := ["_law_pot_here", "_law_one", "_law_other"]) F48 fun _ _ _ _ _ _ us hl => match us, hl with | [_, _, _], _ => rfl
  have ok45 := ok_rest_form (P := P) (w := w) (mg := mg) (base := base) F45 Tx D_rest_shape D_shape_of D_told_shape
  have D_rest_form : DefD (ct K) P w K mg base 9 "rest_form" true 2 s_rest_form := ⟨⟨_, _, _, ok45, (PySem.W.mg_of X G (He.eqO_ok (okX.at h 65))), F45.kp, b45⟩, (fun _ _ => len_s_rest_form)⟩
  have K_divides_form_other : DefK (ct K) P w K mg base 9 "divides" false 0 ["form", "other"] [0, 1] 2 s_divides := ⟨⟨_, _, ["form", "other"], ok44, (PySem.W.mg_of X G (He.eqO_ok (okX.at h 64))), F44.kp, kwf_of F44 fun _ _ _ _ _ _ ws hl => match ws, hl with | [_, _], _ => rfl⟩, (fun _ _ => len_s_divides)⟩
  have K_product_other_form : DefK (ct K) P w K mg base 9 "product" true 0 ["other", "form"] [1, 0] 2 s_product := ⟨⟨_, _, ["form", "other"], ok36, (PySem.W.mg_of X G (He.eqO_ok (okX.at h 58))), F36.kp, kwf_of F36 fun _ _ _ _ _ _ ws hl => match ws, hl with | [_, _], _ => rfl⟩, (fun _ _ => len_s_product)⟩
  have K_rest_form_other_form : DefK (ct K) P w K mg base 9 "rest_form" true 0 ["other", "form"] [1, 0] 2 s_rest_form := ⟨⟨_, _, ["form", "other"], ok45, (PySem.W.mg_of X G (He.eqO_ok (okX.at h 65))), F45.kp, kwf_of F45 fun _ _ _ _ _ _ ws hl => match ws, hl with | [_, _], _ => rfl⟩, (fun _ _ => len_s_rest_form)⟩
  have ok48 := ok_law_two_right (P := P) (w := w) (mg := mg) (base := base) (He5.fun_of F48) Tx D_law_formed D_law_given_form D_law_headed D_law_told D_divides D_product D_rest_form K_divides_form_other K_product_other_form K_rest_form_other_form E1 RT
  have D_law_two_right : DefDG (ct K) P w K mg base 10 "_law_two_right" false 3 s_law_two_right_k42 := ⟨⟨_, _, _, ok48, (PySem.W.mg_of X G (He.eqO_ok (okX.at h 66))), F48.kp, b48⟩, (fun _ _ => len_s_law_two_right_k42)⟩
  obtain ⟨dsM_Ratio1, dvM_Ratio1, dbM_Ratio1⟩ := FunD.binds1 (ps := ["self", "top", "bottom"]) F11 2 0 (by simp) rfl fun T kV doc pm an cdv ct us its l1 l2 => match us, l1, its, l2 with | [_, _], _, [_], _ => ⟨_, rfl, rfl⟩
  have M_Ratio1 : MkD (ct K) P w K mg base 4 0 "Ratio" 2 s_Ratio_init [D.int 1] := ⟨⟨_, _, _, dsM_Ratio1, _, ok11, ⟨(okX.at h 103), (He.eqO_ok (okX.at h 105)), (okX.at h 106), (okX.at h 104)⟩, (PySem.W.mg_of X G (He.eqO_ok (okX.at h 80))), dbM_Ratio1, dvM_Ratio1, fun _ _ => .cons .int (.nil)⟩, (fun _ _ => len_s_Ratio_init), by show 0 < 1; decide⟩
  have ok56 := ok_law_right (P := P) (w := w) (mg := mg) (base := base) (He5.fun_of F56) Tx D_law_any_right D_law_form D_law_formed D_law_given_form D_law_headed D_law_told D_law_two_right D_divides D_product D_rest_form M_Ratio1 E1
  obtain ⟨fd57, F57⟩ := c.def_ 57
  have F57 : FunD K "_law_pot" "_law_pot" (defArgs (top 47)) (defBody (top 47)) (defScope (top 47)) [] [] (He.ga K "_law_pot") fd57 := F57
  have b57 := FunD.bindsN (ps := ["_law_script", "_law_k"]) F57 fun _ _ _ _ _ _ us hl => match us, hl with | [_, _], _ => rfl
  exact ⟨⟨_, _, ok_law_pot (He5.fun_of F57) Tx, (PySem.W.mg_of X G (He.eqO_ok (okX.at h 75))), F57.kp, b57⟩, ⟨⟨_, _, _, ok56, (PySem.W.mg_of X G (He.eqO_ok (okX.at h 74))), F56.kp, b56⟩, (fun _ _ => len_s_law_right_k42)⟩⟩
theorem law_of {f : Addr} (X : K.In hp) (G : hp.Ns mainGlobals mg) (c : TellX okX fn K) (hfa : mg ("law" : Str) = some (.ref f)) (hs : ∀ a R, R (.bl true) → s_law_right_k42 [.pot a] R) :
    ∃ fd : FuncData, (∀ (s : Shared) (v : Value), BindsTo s fd ⟨[v], []⟩ [("_law_script", v)]) ∧ ∀ base : Heap, K.In base → base.Ns mainGlobals mg → FnG P w K mg base 13 f fd ["_law_script"] (spLaw K) := by
  have h := c.truth
  obtain ⟨fd, F⟩ := c.def_ 59
  have F : FunD K "law" "law" (defArgs (top 74)) (defBody (top 74)) (defScope (top 74)) [] [] (He.ga K "law") fd := F
  have e := hfa.symm.trans (PySem.W.mg_of X G (He.eqO_ok (okX.at h 77)))
  cases e
  have b := FunD.bindsA (ps := ["_law_script"]) F fun _ _ _ _ _ _ us hl => match us, hl with | [_], _ => rfl
  refine ⟨fd, fun s v => b s [v] rfl, fun base _ _ => ?_⟩
  obtain ⟨dp, dr⟩ := all_of (P := P) (w := w) (base := base) X G c
  exact ok_law (He5.fun_of F) dp dr hs
end
end K42
set_option Elab.async false
set_option linter.all false
set_option maxRecDepth 100000
set_option maxHeartbeats 1000000
set_option exponentiation.threshold 20000
namespace Ml
open PySem L2 Inn Uv Sl
/-! ### the law's own reckoning -/
theorem rq_div {a b : Int} (hb : b ≠ 0) : (0 < b → a.fdiv (Int.gcd a b : Nat) = (rq a b).num ∧ b.fdiv (Int.gcd a b : Nat) = ((rq a b).den : Nat)) ∧ (¬ 0 < b → a.fdiv (0 - (Int.gcd a b : Nat)) = (rq a b).num ∧ b.fdiv (0 - (Int.gcd a b : Nat)) = ((rq a b).den : Nat)) ∧ Int.gcd a b ≠ 0 ∧ (Int.gcd a b : Int) ∣ b := by
  have g0 : Int.gcd a b ≠ 0 := fun z => hb (Int.gcd_eq_zero_iff.mp z).2
  have dv := Int.gcd_dvd_right a b
  obtain ⟨c, hc⟩ := Int.gcd_dvd_left a b
  obtain ⟨d, hd⟩ := Int.gcd_dvd_right a b
  have n1 : (rq a b).num = b.sign * a / (Int.gcd a b : Nat) := by
    show (Rat.divInt a b).num = _
    rw [Rat.num_divInt, Int.gcd_comm]
  have n2 : (rq a b).den = b.natAbs / Int.gcd a b := by
    show (Rat.divInt a b).den = _
    rw [Rat.den_divInt, if_neg hb, Int.gcd_comm]
  generalize Int.gcd a b = g at *
  have gz : (g : Int) ≠ 0 := by omega
  have nz : -(g : Int) ≠ 0 := by omega
  have ea : a.fdiv (g : Int) = c := by rw [hc]; exact dvd_fdiv gz
  have eb : b.fdiv (g : Int) = d := by rw [hd]; exact dvd_fdiv gz
  have ea' : a.fdiv (-(g : Int)) = -c := by rw [hc, ← Int.neg_mul_neg]; exact dvd_fdiv nz
  have eb' : b.fdiv (-(g : Int)) = -d := by rw [hd, ← Int.neg_mul_neg]; exact dvd_fdiv nz
  rw [Int.zero_sub, ea, eb, ea', eb']
  refine ⟨fun hp => ?_, fun hp => ?_, g0, dv⟩
  · rw [Int.sign_eq_one_of_pos hp, Int.one_mul] at n1
    have m1 : a / (g : Int) = c := by rw [← fdiv_nat]; exact ea
    have m2 : ((b.natAbs / g : Nat) : Int) = d := by
      rw [Int.natCast_ediv, Int.natAbs_of_nonneg (Int.le_of_lt hp), ← fdiv_nat]
      exact eb
    rw [n1, n2, m1, m2]
    exact ⟨rfl, rfl⟩
  · rw [Int.sign_eq_neg_one_of_neg (by omega), Int.neg_one_mul] at n1
    have m1 : -a / (g : Int) = -c := by rw [← fdiv_nat, hc, ← Int.mul_neg]; exact dvd_fdiv gz
    have m2 : ((b.natAbs / g : Nat) : Int) = -d := by
      have e : (b.natAbs : Int) = -b := by omega
      rw [Int.natCast_ediv, e, ← fdiv_nat, hd, ← Int.mul_neg]
      exact dvd_fdiv gz
    rw [n1, n2, m1, m2]
    exact ⟨rfl, rfl⟩
theorem abs_nat {i : Int} : (if i < 0 then -i else i) = ((i.natAbs : Nat) : Int) := by split <;> omega
theorem fmod_nat {x y : Nat} : ((x : Nat) : Int).fmod ((y : Nat) : Int) = ((x % y : Nat) : Int) := by
  rw [Int.fmod_eq_emod_of_nonneg _ (by omega)]
  rfl
theorem m_low {a b : Int} {k : Nat} {R : D → Prop} (hb : b ≠ 0) (hk : Bt k b) (hk2 : k ≤ 9000) (h : R (encP (rq a b))) : s_law_low [.int a, .int b] R := by
  unfold s_law_low
  rfl'
  rw [abs_nat, abs_nat]
  obtain ⟨r1, r2, g0, gd⟩ := rq_div (a := a) hb
  refine whC_ind (fun s => ∃ x y : Nat, s = (.int x, .int y) ∧ Nat.gcd x y = Int.gcd a b) (fun s => match s.2 with | .int i => i.toNat | _ => 0) _ ⟨_, _, rfl, rfl⟩ ?_
  rintro s nx ⟨x, y, rfl, hg⟩ hn
  rfl'
  by_cases hy : 0 < y
  · have e : decide ((0 : Int) < ((y : Nat) : Int)) = true := decide_eq_true (by omega)
    rw [e]
    rfl'
    refine ⟨by omega, hn _ ⟨y, x % y, by rw [fmod_nat], ?_⟩ ?_⟩
    · rw [← hg, Nat.gcd_comm x y, Nat.gcd_rec y x]
      exact Nat.gcd_comm _ _
    · show ((x : Int).fmod (y : Int)).toNat < ((y : Nat) : Int).toNat
      rw [fmod_nat]
      have := Nat.mod_lt x hy
      omega
  · have e : decide ((0 : Int) < ((y : Nat) : Int)) = false := decide_eq_false (by omega)
    rw [e]
    rfl'
    have y0 : y = 0 := by omega
    rw [y0, Nat.gcd_zero_right] at hg
    subst hg
    have lg : ((Int.gcd a b : Nat) : Int).natAbs.log2 < 9000 := ((hk.dvd hb gd).mono hk2).log (by decide)
    by_cases hp : 0 < b
    · rw [decide_eq_true hp]
      rfl'
      refine ⟨⟨by omega, np lg⟩, ⟨by omega, np lg⟩, ?_⟩
      rw [(r1 hp).1, (r1 hp).2]
      exact ⟨sz, h⟩
    · rw [decide_eq_false hp]
      rfl'
      have lg2 : (0 - ((Int.gcd a b : Nat) : Int)).natAbs.log2 < 9000 := by rw [Int.zero_sub, Int.natAbs_neg]; exact lg
      refine ⟨⟨by omega, np lg2⟩, ⟨by omega, np lg2⟩, ?_⟩
      rw [(r2 hp).1, (r2 hp).2]
      exact ⟨sz, h⟩
/-- a rational whose top and bottom have k bits -/
structure Ht (k : Nat) (q : Rat) : Prop where
  n : Bt k q.num
  d : Bt k ((q.den : Nat) : Int)
theorem Ht.mono {k m : Nat} {q : Rat} (h : Ht k q) (hm : k ≤ m) : Ht m q := ⟨h.n.mono hm, h.d.mono hm⟩
theorem rq_ht {a b : Int} {k : Nat} (hb : b ≠ 0) (ha : Bt k a) (hb2 : Bt k b) : Ht k (rq a b) := by
  obtain ⟨r1, r2, g0, gd⟩ := rq_div (a := a) hb
  have n1 : (rq a b).num.natAbs ≤ a.natAbs := by
    show (Rat.divInt a b).num.natAbs ≤ _
    rw [Rat.num_divInt]
    obtain ⟨c, hc⟩ := Int.gcd_dvd_left a b
    have gz : ((Int.gcd a b : Nat) : Int) ≠ 0 := by omega
    rw [Int.gcd_comm b a]
    generalize Int.gcd a b = g at *
    subst hc
    rw [show b.sign * ((g : Int) * c) = (g : Int) * (b.sign * c) by rw [← Int.mul_assoc, ← Int.mul_assoc, Int.mul_comm b.sign], Int.mul_ediv_cancel_left _ gz, Int.natAbs_mul, Int.natAbs_mul]
    have s1 : b.sign.natAbs ≤ 1 := by rw [Int.natAbs_sign]; split <;> omega
    have : g ≠ 0 := by omega
    have h1 : b.sign.natAbs * c.natAbs ≤ 1 * c.natAbs := Nat.mul_le_mul_right _ s1
    have h2 : 1 * c.natAbs ≤ g * c.natAbs := Nat.mul_le_mul_right _ (by omega)
    exact Nat.le_trans h1 h2
  have n2 : (rq a b).den ≤ b.natAbs := by
    show (Rat.divInt a b).den ≤ _
    rw [Rat.den_divInt, if_neg hb]
    exact Nat.div_le_self _ _
  exact ⟨ha.le n1, Nat.lt_of_le_of_lt n2 hb2⟩
theorem q_add (p q : Rat) : rq (p.num * q.den + q.num * p.den) (p.den * q.den) = p + q := by
  rw [rq_eq, Rat.intCast_add, Rat.intCast_mul, Rat.intCast_mul, Rat.intCast_mul, Rat.intCast_natCast, Rat.intCast_natCast]
  have e1 := q_of p
  have e2 := q_of q
  have d1 : (p.den : Rat) ≠ 0 := by exact_mod_cast p.den_nz
  have d2 : (q.den : Rat) ≠ 0 := by exact_mod_cast q.den_nz
  generalize (p.num : Rat) = a at *
  generalize (q.num : Rat) = b at *
  generalize (p.den : Rat) = c at *
  generalize (q.den : Rat) = d at *
  rw [e1, e2]
  grind
theorem q_by (p q : Rat) : rq (p.num * q.num) (p.den * q.den) = p * q := by
  rw [rq_eq, Rat.intCast_mul, Rat.intCast_mul, Rat.intCast_natCast, Rat.intCast_natCast]
  have e1 := q_of p
  have e2 := q_of q
  have d1 : (p.den : Rat) ≠ 0 := by exact_mod_cast p.den_nz
  have d2 : (q.den : Rat) ≠ 0 := by exact_mod_cast q.den_nz
  generalize (p.num : Rat) = a at *
  generalize (q.num : Rat) = b at *
  generalize (p.den : Rat) = c at *
  generalize (q.den : Rat) = d at *
  rw [e1, e2]
  grind
theorem den0 {p q : Rat} : ((p.den : Nat) : Int) * ((q.den : Nat) : Int) ≠ 0 := Int.mul_ne_zero (by have := p.den_nz; omega) (by have := q.den_nz; omega)
theorem Ht.add {a b : Nat} {p q : Rat} (h : Ht a p) (h' : Ht b q) : Ht (a + b + 1) (p + q) := by
  have := rq_ht (k := a + b + 1) (a := p.num * q.den + q.num * p.den) den0 ((h.n.mul h'.d).add ((h'.n.mul h.d).mono (by omega))) ((h.d.mul h'.d).mono (by omega))
  rw [q_add] at this
  exact this
theorem Ht.mul {a b : Nat} {p q : Rat} (h : Ht a p) (h' : Ht b q) : Ht (a + b) (p * q) := by
  have := rq_ht (k := a + b) (a := p.num * q.num) den0 (h.n.mul h'.n) (h.d.mul h'.d)
  rw [q_by] at this
  exact this
theorem m_lplus {p q : Rat} {a b : Nat} {R : D → Prop} (h : Ht a p) (h' : Ht b q) (hab : a + b ≤ 8000) (hR : R (encP (p + q))) : s_law_plus [encP p, encP q] R := by
  unfold s_law_plus
  rfl'
  refine ⟨_, rfl, _, rfl, ?_⟩
  rfl'
  refine ⟨h.n.cm h'.d (by omega), _, rfl, _, rfl, ?_⟩
  rfl'
  refine ⟨h'.n.cm h.d (by omega), _, rfl, _, rfl, ?_⟩
  rfl'
  refine ⟨h.d.cm h'.d (by omega), m_low den0 (h.d.mul h'.d) (by omega) ?_⟩
  rw [q_add]
  exact hR
theorem m_lby {p q : Rat} {a b : Nat} {R : D → Prop} (h : Ht a p) (h' : Ht b q) (hab : a + b ≤ 8000) (hR : R (encP (p * q))) : s_law_by [encP p, encP q] R := by
  unfold s_law_by
  rfl'
  refine ⟨_, rfl, _, rfl, ?_⟩
  rfl'
  refine ⟨h.n.cm h'.n (by omega), _, rfl, _, rfl, ?_⟩
  rfl'
  refine ⟨h.d.cm h'.d (by omega), m_low den0 (h.d.mul h'.d) (by omega) ?_⟩
  rw [q_by]
  exact hR
theorem iQ_get {l : List Rat} {i : Nat} {a : Rat} (h : l[i]? = some a) : (l.map encP)[i]? = some (encP a) := by
  rw [List.getElem?_map, h]
  rfl
/-- all of k bits -/
def Hs (k : Nat) (p : List Rat) : Prop := ∀ q ∈ p, Ht k q
theorem ht0 {k : Nat} (hk : 0 < k) : Ht k 0 := ⟨Bt.zero, Bt.of 2 (by decide) (Nat.le_trans (by decide) (Nat.pow_le_pow_right (by decide) hk))⟩
theorem Hs.cf {k i : Nat} {p : List Rat} (h : Hs k p) (hk : 0 < k) : Ht k (Ml.cf p i) := by
  unfold Ml.cf
  cases e : p[i]? with
  | none => exact ht0 hk
  | some q => exact h q (List.mem_of_getElem? e)
theorem cf_lt {p : List Rat} {i : Nat} (h : i < p.length) : p[i]? = some (cf p i) := by
  unfold cf
  rw [List.getElem?_eq_getElem h]
  rfl
def tab (n : Nat) (f : Nat → Rat) : List Rat := (List.range n).map f
theorem cf_tab {n k : Nat} {f : Nat → Rat} : cf (tab n f) k = if k < n then f k else 0 := by
  unfold cf tab
  rw [List.getElem?_map]
  by_cases h : k < n
  · rw [List.getElem?_range h, if_pos h]
    rfl
  · rw [List.getElem?_eq_none (by rw [List.length_range]; omega), if_neg h]
    rfl
end Ml
set_option Elab.async false
set_option linter.all false
set_option maxRecDepth 100000
set_option maxHeartbeats 1000000
set_option exponentiation.threshold 20000
namespace Ml
open PySem L2 Inn Uv Sl
theorem enum_at {β : Type} {p : List β} {ys zs : List (β × Nat)} {x : β × Nat} (h : p.zipIdx = ys ++ x :: zs) : x.2 = ys.length ∧ p[ys.length]? = some x.1 := by
  have e : p.zipIdx[ys.length]? = some x := by rw [h, List.getElem?_append_right (Nat.le_refl _), Nat.sub_self]; rfl
  rw [List.getElem?_zipIdx] at e
  cases hp : p[ys.length]? with
  | none => rw [hp] at e; cases e
  | some c =>
    rw [hp] at e
    cases e
    exact ⟨Nat.zero_add _, rfl⟩
theorem enum_P {p : List Rat} : (p.map encP).zipIdx.map (fun x => D.tup [.int (x.2 : Nat), x.1]) = p.zipIdx.map fun x => D.tup [.int (x.2 : Nat), encP x.1] := by
  rw [List.zipIdx_map, List.map_map]
  rfl
def row (p q : List Rat) (i k : Nat) : Rat := if i ≤ k then cf p i * cf q (k - i) else 0
def rows (p q : List Rat) (i k : Nat) : Rat := ((List.range i).map fun t => row p q t k).sum
theorem rows_s {p q : List Rat} {i k : Nat} : rows p q (i + 1) k = rows p q i k + row p q i k := by
  unfold rows
  rw [List.range_succ, List.map_append, sum_app]
  show _ + (row p q i k + 0) = _
  rw [Rat.add_zero]
theorem rows_all {p q : List Rat} {k : Nat} : rows p q p.length k = mulc p (cf q) k := mulc_sum.symm
theorem cf_set {l : List Rat} {a k : Nat} {v : Rat} (h : a < l.length) : cf (l.set a v) k = if k = a then v else cf l k := by
  unfold cf
  by_cases hk : k = a
  · subst hk
    rw [if_pos rfl, List.getElem?_set_self h]
    rfl
  · rw [if_neg hk, List.getElem?_set_ne (fun e => hk e.symm)]
theorem Hs.mono {a b : Nat} {p : List Rat} (h : Hs a p) (hab : a ≤ b) : Hs b p := fun q hq => (h q hq).mono hab
end Ml
set_option Elab.async false
set_option linter.all false
set_option maxRecDepth 100000
set_option maxHeartbeats 1000000
set_option exponentiation.threshold 20000
namespace Ml
open PySem L2 Inn Uv Sl
/-! ### a value that tells the polynomial p, over N, of k bits -/
structure Pv (N k : Nat) (v : D) (p : List Rat) : Prop where
  ex : ∃ qs, Po N k v qs ∧ trimQ qs = p
section
variable {N k N' k' : Nat} {v v' d : D} {p p' : List Rat} {c x : Rat} {R : D → Prop}
theorem Pv.tr (h : Pv N k v p) : TrQ p := by
  obtain ⟨qs, _, rfl⟩ := h.ex
  exact trQ_trim
theorem Pv.len (h : Pv N k v p) : p.length ≤ 25 := by
  obtain ⟨qs, hp, rfl⟩ := h.ex
  exact Nat.le_trans trimZ_le hp.len
theorem Pv.pl (h : Pv N k v p) : Pl N k p := by
  obtain ⟨qs, hp, rfl⟩ := h.ex
  exact hp.pl.sub fun q hq => mem_trimZ hq
end
/-! ### how great the numbers are -/
theorem Pl.cf {N k : Nat} {p : List Rat} (h : Pl N k p) (i : Nat) : ∃ a : Int, cf p i = (a : Rat) / (N : Rat) ∧ Bt k a := by
  by_cases hi : i < p.length
  · exact h _ (List.mem_of_getElem? (cf_lt hi))
  · refine ⟨0, ?_, Bt.zero⟩
    rw [cf_ge (by omega), Rat.intCast_zero]
    grind
theorem pl_cf {N k : Nat} {p : List Rat} (h : ∀ i, ∃ a : Int, Ml.cf p i = (a : Rat) / (N : Rat) ∧ Bt k a) : Pl N k p := by
  intro q hq
  obtain ⟨i, hi, rfl⟩ := List.mem_iff_getElem.mp hq
  have := h i
  rw [cf_get (List.getElem?_eq_getElem hi)] at this
  exact this
theorem pl_trim {N k : Nat} {p : List Rat} (h : Pl N k p) : Pl N k (trimQ p) := h.sub fun q hq => mem_trimZ hq
theorem mulc_over {N k N' k' : Nat} {g : Nat → Rat} (hg : ∀ i, ∃ a : Int, g i = (a : Rat) / (N' : Rat) ∧ Bt k' a) : ∀ {p : List Rat}, Pl N k p → ∀ i, ∃ a : Int, mulc p g i = (a : Rat) / ((N * N' : Nat) : Rat) ∧ a.natAbs ≤ p.length * 2 ^ (k + k')
  | [], _, i => ⟨0, by show (0 : Rat) = _; rw [Rat.intCast_zero]; grind, Nat.zero_le _⟩
  | c :: p, h, i => by
    obtain ⟨a, ea, ba⟩ := h c List.mem_cons_self
    obtain ⟨b, eb, bb⟩ := hg i
    have ih := mulc_over hg (p := p) (h.sub fun q hq => List.mem_cons_of_mem _ hq)
    have e : a.natAbs * b.natAbs < 2 ^ (k + k') := by
      have := ba.mul bb
      unfold Bt at this
      rw [Int.natAbs_mul] at this
      exact this
    cases i with
    | zero =>
      refine ⟨a * b, ?_, ?_⟩
      · show c * g 0 + 0 = _
        rw [ea, eb, Rat.intCast_mul, Rat.natCast_mul]
        grind
      · rw [Int.natAbs_mul, List.length_cons, Nat.succ_mul]
        omega
    | succ i =>
      obtain ⟨d, ed, bd⟩ := ih i
      refine ⟨a * b + d, ?_, ?_⟩
      · show c * g (i + 1) + mulc p g i = _
        rw [ea, eb, ed, Rat.intCast_add, Rat.intCast_mul, Rat.natCast_mul]
        grind
      · rw [List.length_cons, Nat.succ_mul]
        have := Int.natAbs_add_le (a * b) d
        rw [Int.natAbs_mul] at this
        omega
theorem pl_tim {N k N' k' m : Nat} {p q : List Rat} (h : Pl N k p) (h' : Pl N' k' q) (hl : p.length < 2 ^ m) : Pl (N * N') (m + (k + k')) (ptim p q) := pl_cf fun i => by
  obtain ⟨a, ea, ba⟩ := mulc_over (fun i => h'.cf i) h i
  refine ⟨a, by rw [cf_ptim]; exact ea, ?_⟩
  show a.natAbs < _
  rw [Nat.pow_add]
  exact Nat.lt_of_le_of_lt ba (Nat.mul_lt_mul_of_lt_of_le hl (Nat.le_refl _) (Nat.pow_pos (by decide)))
theorem padd_len {p q : List Rat} : (padd p q).length ≤ max p.length q.length := by
  refine Nat.le_trans trimZ_le ?_
  rw [zipL_len]
  exact Nat.le_refl _
theorem len_of {p : List Rat} {n : Nat} (ht : TrQ p) (h : ∀ k, n ≤ k → cf p k = 0) : p.length ≤ n := by
  by_cases e : p = []
  · rw [e]; exact Nat.zero_le _
  · have l := List.length_pos_iff.mpr e
    by_cases hn : p.length ≤ n
    · exact hn
    · exact absurd (h _ (by omega)) (ht.last e)
theorem ptim_len {p q : List Rat} : (ptim p q).length ≤ p.length + q.length - 1 := len_of trQ_trim fun k hk => by
  rw [cf_ptim, mulc_ge (by omega)]
theorem Pl.hs {N k m : Nat} {p : List Rat} (h : Pl N k p) (h0 : N ≠ 0) (hN : N < 2 ^ m) (hk : k ≤ m) : Hs m p := fun q hq => ⟨((h.num h0) q hq).mono hk, Nat.lt_of_le_of_lt (le_n h0 (h.den h0 q hq)) hN⟩
theorem Rn.ht {N k m : Nat} {q : Rat} (h : Rn N k q) (h0 : N ≠ 0) (hN : N < 2 ^ m) (hk : k ≤ m) : Ht m q := ⟨(h.num h0).mono hk, Nat.lt_of_le_of_lt (le_n h0 (h.den h0)) hN⟩
theorem Hs.sn {m : Nat} {p : List Rat} (h : Hs m p) (hm : m ≤ 1000) : ∀ q ∈ p, Sn q := fun q hq => ⟨(h q hq).n.mono hm, (h q hq).d.mono hm⟩
theorem Ht.sn {m : Nat} {q : Rat} (h : Ht m q) (hm : m ≤ 1000) : Sn q := ⟨h.n.mono hm, h.d.mono hm⟩
/-! ### the rule of products -/
end Ml
set_option Elab.async false
set_option linter.all false
set_option maxRecDepth 100000
set_option maxHeartbeats 1000000
set_option exponentiation.threshold 20000
namespace Ml
open PySem L2 Inn Uv Sl
instance {k : Nat} {i : Int} : Decidable (Bt k i) := inferInstanceAs (Decidable (_ < _))
theorem encP_lit {q : Rat} {a : Int} {b : Nat} (h1 : q.num = a) (h2 : q.den = b) : encP q = .tup [.int a, .int (b : Nat)] := by rw [encP, h1, h2]
/-! ### draws -/
theorem m_draw {a : Addr} {n : Int} {R : D → Prop} (h0 : 0 < n) (h1 : n ≤ 2 ^ 20) (h : ∀ i : Nat, (i : Int) < n → R (.int i)) : s_law_draw [.pot a, .int n] R :=
  ⟨h0, h1, fun i i0 i1 => by
    obtain ⟨k, rfl⟩ := Int.eq_ofNat_of_zero_le i0
    exact h k i1⟩
theorem m_pick {a : Addr} {xs : List D} {R : D → Prop} (h0 : 0 < xs.length) (h1 : xs.length ≤ 10000) (h : ∀ x ∈ xs, R x) : s_law_pick [.pot a, .lst xs] R := by
  unfold s_law_pick
  rfl'
  refine m_draw (by omega) (by omega) fun i hi => ?_
  have hi : i < xs.length := by omega
  rfl'
  exact ⟨xs[i], atI_of rfl (List.getElem?_eq_getElem hi), h _ (List.getElem_mem hi)⟩
/-- a number of the law: over 6, of 5 bits -/
abbrev Lq (q : Rat) : Prop := Rn 6 5 q
/-- a polynomial of the law -/
structure Lp (n : Nat) (p : List Rat) : Prop where
  t : TrQ p
  l : p.length ≤ n
  q : ∀ q ∈ p, Lq q
theorem Lp.mono {n m : Nat} {p : List Rat} (h : Lp n p) (hm : n ≤ m) : Lp m p := ⟨h.t, Nat.le_trans h.l hm, h.q⟩
theorem Lp.pl {n : Nat} {p : List Rat} (h : Lp n p) : Pl 6 5 p := fun q hq => (h.q q hq).ex
theorem lq0 : Lq 0 := ⟨0, by decide +kernel, Bt.zero⟩
/-! ### what is handed over -/
/-- p handed over: numbers, noughts behind -/
structure Gv (p : List Rat) (v : D) : Prop where
  ex : ∃ (ds : List D) (j : Nat), Sq v ds ∧ Nus ds (p ++ List.replicate j 0) ∧ j ≤ 2
theorem cf_app0 {p : List Rat} {j k : Nat} : cf (p ++ List.replicate j 0) k = cf p k := by
  unfold cf
  by_cases h : k < p.length
  · rw [List.getElem?_append_left h]
  · rw [List.getElem?_append_right (by omega), List.getElem?_replicate, List.getElem?_eq_none (by omega)]
    split <;> rfl
theorem Gv.pv {p : List Rat} {v : D} {N k n : Nat} (h : Gv p v) (ht : TrQ p) (hp : Pl N k p) (hl : p.length ≤ n) (hn : n ≤ 20) : Pv N k v p := by
  obtain ⟨ds, j, hs, hd, hj⟩ := h.ex
  refine ⟨p ++ List.replicate j 0, ⟨⟨ds, hs, hd⟩, by rw [List.length_append, List.length_replicate]; omega, hp.app fun q hq => ?_⟩, ?_⟩
  · rw [(List.mem_replicate.mp hq).2]
    refine ⟨0, ?_, Bt.zero⟩
    rw [Rat.intCast_zero]
    grind
  · exact (to_trim ht fun k => cf_app0.symm).symm
theorem nu_tl {d : D} {q : Rat} {n : Nat} (h : Nu d q) (hs : Sn q) : Tl n d 2020 := by
  cases h with
  | int h => exact (tl_int hs.n).mono (by decide)
  | rat => exact tl_rat hs
theorem nus_tl {n : Nat} : ∀ {ds : List D} {qs : List Rat}, Nus ds qs → (∀ q ∈ qs, Sn q) → ∀ d ∈ ds, Tl n d 2020
  | _, _, .cons h t, hs, d, hd => by
    rcases List.mem_cons.mp hd with rfl | hd
    · exact nu_tl h (hs _ List.mem_cons_self)
    · exact nus_tl t (fun q hq => hs q (List.mem_cons_of_mem _ hq)) d hd
theorem sn0 : Sn 0 := ⟨Bt.zero, by show (1 : Nat) < 2 ^ 1000; exact Nat.lt_of_lt_of_le (by decide : 1 < 2 ^ 1) (Nat.pow_le_pow_right (by decide) (by decide))⟩
theorem Gv.tl {p : List Rat} {v : D} {n : Nat} (h : Gv p v) (hs : ∀ q ∈ p, Sn q) (hl : p.length ≤ 28) : Tl (n + 1) v (30 * 2022 + 3) := by
  obtain ⟨ds, j, hq, hd, hj⟩ := h.ex
  have hd2 := nus_tl (n := n) hd fun q hq => (List.mem_append.mp hq).elim (hs q) fun h => by rw [(List.mem_replicate.mp h).2]; exact sn0
  have ll : ds.length ≤ 30 := by
    rw [hd.len, List.length_append, List.length_replicate]
    omega
  cases hq with
  | l => exact tl_lst hd2 ll
  | t => exact tl_tup hd2 ll
theorem den_eq {q : Rat} : (((q.den : Nat) : Int) == 1) = decide (q.den = 1) := by
  rw [Bool.eq_iff_iff, beq_iff_eq, decide_eq_true_eq]
  omega
theorem mapD_any {β : Type} {f : D → M D} {e : β → D} {Q : D → β → Prop} : ∀ {xs : List β} {R : List D → Prop}, (∀ x ∈ xs, ∀ R' : D → Prop, (∀ y, Q y x → R' y) → f (e x) R') → (∀ ys, All2 Q ys xs → R ys) → mapD f (xs.map e) R
  | [], _, _, h => h [] .nil
  | x :: xs, R, hf, h => hf x List.mem_cons_self _ fun y hy => mapD_any (xs := xs) (fun x hx => hf x (List.mem_cons_of_mem _ hx)) fun ys hys => h (y :: ys) (.cons hy hys)
end Ml
set_option Elab.async false
set_option linter.all false
set_option maxRecDepth 100000
set_option maxHeartbeats 1000000
set_option exponentiation.threshold 20000
namespace Ml
open PySem L2 Inn Uv Sl
/-! ### polynomials are told by their worths -/
/-- divided by t less a, without the rest -/
def sdiv (a : Rat) : List Rat → List Rat
  | [] => []
  | _ :: p => pev p a :: sdiv a p
theorem pev_sdiv {a x : Rat} : ∀ {p : List Rat}, pev p x - pev p a = (x - a) * pev (sdiv a p) x
  | [] => by show (0 : Rat) - 0 = (x - a) * 0; grind
  | c :: p => by
    have ih := pev_sdiv (a := a) (x := x) (p := p)
    show (c + x * pev p x) - (c + a * pev p a) = (x - a) * (pev p a + x * pev (sdiv a p) x)
    grind
theorem cf_sdiv {a : Rat} : ∀ {p : List Rat} {k : Nat}, cf p k = (match k with | 0 => pev p a | j + 1 => cf (sdiv a p) j) - a * cf (sdiv a p) k
  | [], 0 => by rw [cf_nil]; show (0 : Rat) = 0 - a * cf [] 0; rw [cf_nil]; grind
  | [], k + 1 => by rw [cf_nil]; show (0 : Rat) = cf [] k - a * cf [] (k + 1); rw [cf_nil, cf_nil]; grind
  | c :: p, 0 => by
    rw [cf_0]
    show c = (c + a * pev p a) - a * cf (pev p a :: sdiv a p) 0
    rw [cf_0]
    grind
  | c :: p, k + 1 => by
    rw [cf_s]
    show cf p k = cf (pev p a :: sdiv a p) k - a * cf (pev p a :: sdiv a p) (k + 1)
    rw [cf_s, cf_sdiv (a := a) (p := p) (k := k)]
    cases k with
    | zero => rw [cf_0]
    | succ k => rw [cf_s]
theorem sdiv_top {a : Rat} : ∀ {p : List Rat} {k : Nat}, p.length ≤ k + 1 → cf (sdiv a p) k = 0
  | [], k, _ => cf_nil
  | c :: p, 0, h => by
    show cf (pev p a :: sdiv a p) 0 = 0
    rw [cf_0, List.length_eq_zero_iff.mp (show p.length = 0 by rw [List.length_cons] at h; omega)]
    rfl
  | c :: p, k + 1, h => by
    show cf (pev p a :: sdiv a p) (k + 1) = 0
    rw [cf_s]
    exact sdiv_top (by rw [List.length_cons] at h; omega)
/-- no polynomial but nought has so many roots -/
theorem vanish : ∀ {xs : List Rat} {p : List Rat}, xs.Nodup → p.length ≤ xs.length → (∀ x ∈ xs, pev p x = 0) → ∀ k, cf p k = 0
  | [], p, _, hl, _, k => by
    rw [List.length_eq_zero_iff.mp (Nat.le_zero.mp hl)]
    exact cf_nil
  | a :: xs, p, nd, hl, h, k => by
    have nd' := List.nodup_cons.mp nd
    have ha : pev p a = 0 := h a List.mem_cons_self
    have q0 := vanish (xs := xs) (p := trimQ (sdiv a p)) nd'.2 (len_of trQ_trim fun k hk => by
      rw [cf_trimZ]
      rw [List.length_cons] at hl
      exact sdiv_top (by omega)) fun x hx => by
      rw [pev_trim]
      have hx0 := h x (List.mem_cons_of_mem _ hx)
      have e := pev_sdiv (a := a) (x := x) (p := p)
      rw [hx0, ha] at e
      have ne : x - a ≠ 0 := fun z => nd'.1 (by rw [show a = x by grind]; exact hx)
      grind
    have q1 : ∀ k, cf (sdiv a p) k = 0 := fun k => by rw [← cf_trimZ]; exact q0 k
    rw [cf_sdiv (a := a), q1 k]
    cases k with
    | zero => show pev p a - a * 0 = 0; rw [ha]; grind
    | succ k => show cf (sdiv a p) k - a * 0 = 0; rw [q1]; grind
theorem nodup_nat (n : Nat) : ((List.range n).map fun i => ((i : Nat) : Rat)).Nodup := by
  refine List.Pairwise.map _ (R := fun a b : Nat => a ≠ b) (fun a b h e => h (by exact_mod_cast e)) ?_
  exact List.nodup_range
theorem pev_neg {p : List Rat} {x : Rat} : pev (p.map fun q => -q) x = -pev p x := by
  have e : p.map (fun q => -q) = p.map fun q => (-1) * q := List.map_congr_left fun q _ => by grind
  rw [e, pev_smul]
  grind
theorem cf_of_pev {p q : List Rat} (h : ∀ x, pev p x = pev q x) : ∀ k, cf p k = cf q k := by
  have z := vanish (xs := (List.range (max p.length q.length)).map fun i => ((i : Nat) : Rat)) (p := zipL (· + ·) p (q.map fun x => -x)) (nodup_nat _) (by rw [zipL_len, List.length_map, List.length_map, List.length_range]; exact Nat.le_refl _) fun x _ => by
    rw [pev_add, pev_neg, h x]
    grind
  intro k
  have := z k
  rw [cf_add, cf_neg] at this
  grind
theorem pev_ext {p q : List Rat} (hp : TrQ p) (hq : TrQ q) (h : ∀ x, pev p x = pev q x) : p = q := poly_ext hp hq (cf_of_pev h)
theorem pev_padd {p q : List Rat} {x : Rat} : pev (padd p q) x = pev p x + pev q x := by rw [pev_trim, pev_add]
theorem pev_psub {p q : List Rat} {x : Rat} : pev (psub p q) x = pev p x - pev q x := by rw [pev_trim, pev_add, pev_neg, Rat.sub_eq_add_neg]
theorem pev_psm {p : List Rat} {c x : Rat} : pev (psm c p) x = c * pev p x := by rw [pev_trim, pev_smul]
theorem pev_tim {p q : List Rat} {x : Rat} : pev (ptim p q) x = pev p x * pev q x := by rw [pev_trim, pev_pmul]
theorem pev_one {c x : Rat} : pev [c] x = c := by show c + x * 0 = c; grind
/-! ### one put in another one -/
/-! lengths -/
theorem tim_len {p q : List Rat} (hp : TrQ p) (hq : TrQ q) (h1 : p ≠ []) (h2 : q ≠ []) : (ptim p q).length = p.length + q.length - 1 := by
  have l1 := List.length_pos_iff.mpr h1
  have l2 := List.length_pos_iff.mpr h2
  have le := ptim_len (p := p) (q := q)
  have top : cf (ptim p q) (p.length - 1 + (q.length - 1)) ≠ 0 := by
    rw [cf_ptim, mulc_sum]
    have e : ((List.range p.length).map fun i => if i ≤ p.length - 1 + (q.length - 1) then cf p i * cf q (p.length - 1 + (q.length - 1) - i) else 0).sum = cf p (p.length - 1) * cf q (q.length - 1) := by
      rw [sum_window (lo := p.length - 1) (c := 1) (by omega)]
      · show (if p.length - 1 + 0 ≤ p.length - 1 + (q.length - 1) then cf p (p.length - 1 + 0) * cf q (p.length - 1 + (q.length - 1) - (p.length - 1 + 0)) else 0) + 0 = _
        rw [if_pos (by omega), Rat.add_zero, Nat.add_zero, show p.length - 1 + (q.length - 1) - (p.length - 1) = q.length - 1 by omega]
      · intro i hi ho
        by_cases h : i ≤ p.length - 1 + (q.length - 1)
        · rw [if_pos h, cf_ge (p := q) (by omega)]
          grind
        · rw [if_neg h]
    rw [e]
    have a1 := hp.last h1
    have a2 := hq.last h2
    grind
  by_cases hl : p.length + q.length - 1 ≤ (ptim p q).length
  · omega
  · exact absurd (cf_ge (by omega)) top
theorem add_len {p q : List Rat} (h : q.length < p.length) (hp : TrQ p) : (padd p q).length = p.length := by
  have le := padd_len (p := p) (q := q)
  have hne : p ≠ [] := by rintro rfl; exact absurd h (Nat.not_lt_zero _)
  have top : cf (padd p q) (p.length - 1) ≠ 0 := by
    rw [cf_padd, cf_ge (p := q) (by omega), Rat.add_zero]
    exact hp.last hne
  by_cases hl : p.length ≤ (padd p q).length
  · omega
  · exact absurd (cf_ge (by omega)) top
end Ml
set_option Elab.async false
set_option linter.all false
set_option maxRecDepth 100000
set_option maxHeartbeats 1000000
set_option exponentiation.threshold 20000
namespace Ml
open PySem L2 Inn Uv Sl
theorem lft_scale {L : Nat} (hL : L ≠ 0) {a : List Int} : lft L a = (lft 1 a).map fun q => (1 / (L : Rat)) * q := by
  show a.map (fun i : Int => (i : Rat) / (L : Rat)) = (a.map fun i : Int => (i : Rat) / ((1 : Nat) : Rat)).map _
  rw [List.map_map]
  refine List.map_congr_left fun i _ => ?_
  show (i : Rat) / (L : Rat) = (1 / (L : Rat)) * ((i : Rat) / ((1 : Nat) : Rat))
  have : ((1 : Nat) : Rat) = 1 := rfl
  rw [this]
  grind
theorem pev_lft {L : Nat} (hL : L ≠ 0) {a : List Int} {x : Rat} : pev (lft L a) x = (1 / (L : Rat)) * pev (lft 1 a) x := by rw [lft_scale hL, pev_smul]
theorem pev_mulL {a b : List Int} {x : Rat} : pev (lft 1 (mulL a b)) x = pev (lft 1 a) x * pev (lft 1 b) x := by
  rw [← pev_pmul]
  refine pev_congr fun k => ?_
  rw [cf_pmul]
  exact cf_mulL (L := 1) (L' := 1)
theorem mulL_bt {a b : List Int} {k l : Nat} (ha : ∀ i ∈ a, Bt k i) (hb : ∀ i ∈ b, Bt l i) (hl : a.length ≤ 1000) : ∀ i ∈ mulL a b, Bt (10 + (k + l)) i := by
  intro i hi
  unfold mulL at hi
  split at hi
  · cases hi
  · obtain ⟨j, hj, rfl⟩ := List.mem_map.mp hi
    have := Bt.sum (k := k + l) (m := 1000) (l := cl a b j) (fun z hz => by
      obtain ⟨u, _, rfl⟩ := List.mem_map.mp hz
      exact (ci_bt ha).mul (ci_bt hb)) (by
      unfold cl
      rw [List.length_map, List.length_range]
      omega)
    show _ < 2 ^ (10 + (k + l))
    rw [Nat.pow_add]
    exact Nat.lt_of_le_of_lt this (Nat.mul_lt_mul_of_lt_of_le (by decide) (Nat.le_refl _) (Nat.pow_pos (by decide)))
theorem trim_bt {a : List Int} {k : Nat} (h : ∀ i ∈ a, Bt k i) : ∀ i ∈ trim a, Bt k i := fun i hi => h i (mem_trimZ hi)
theorem pev_trimI {a : List Int} {x : Rat} : pev (lft 1 (trim a)) x = pev (lft 1 a) x := by rw [lft_trim (by decide), pev_trim]
end Ml
set_option Elab.async false
set_option linter.all false
set_option maxRecDepth 100000
set_option maxHeartbeats 4000000
set_option exponentiation.threshold 20000
namespace Ml
open PySem L2 Inn Uv Sl
theorem okk {N k : Nat} (h0 : N ≠ 0) (hN : N < 2 ^ 100) (hk : k ≤ 100) : Ok N k := ⟨h0, Nat.lt_of_lt_of_le hN (Nat.pow_le_pow_right (by decide) (by decide)), by omega⟩
theorem Lp.hs {n : Nat} {p : List Rat} (h : Lp n p) : Hs 5 p := h.pl.hs (by decide) (by decide) (by decide)
theorem rn_lq {q : Rat} (h : Lq q) : Ht 5 q := h.ht (by decide) (by decide) (by decide)
theorem mulc_gadd {g h : Nat → Rat} : ∀ {p : List Rat} {k : Nat}, mulc p (fun j => g j + h j) k = mulc p g k + mulc p h k
  | [], _ => by show (0 : Rat) = 0 + 0; rw [Rat.add_zero]
  | a :: p, k => by
    show a * (g k + h k) + shift (mulc p fun j => g j + h j) k = (a * g k + shift (mulc p g) k) + (a * h k + shift (mulc p h) k)
    rw [shift_congr (fun k => mulc_gadd (p := p) (k := k)), shift_add]
    grind
theorem mulc_one {a : Rat} : ∀ {p : List Rat} {k : Nat}, mulc p (fun j => if j = 0 then a else 0) k = a * cf p k
  | [], _ => by rw [cf_nil, Rat.mul_zero]; rfl
  | b :: p, k => by
    show b * (if k = 0 then a else 0) + shift (mulc p fun j => if j = 0 then a else 0) k = _
    cases k with
    | zero => rw [cf_0, if_pos rfl]; show b * a + 0 = _; grind
    | succ k =>
      rw [cf_s, if_neg (by omega)]
      show b * 0 + mulc p (fun j => if j = 0 then a else 0) k = _
      rw [mulc_one]
      grind
theorem mulc_shift {g : Nat → Rat} : ∀ {p : List Rat} {k : Nat}, mulc p (shift g) k = shift (mulc p g) k
  | [], k => by cases k <;> rfl
  | b :: p, 0 => by show b * 0 + 0 = (0 : Rat); grind
  | b :: p, k + 1 => by
    show b * g k + mulc p (shift g) k = b * g k + shift (mulc p g) k
    rw [mulc_shift]
theorem mulc_comm : ∀ {p q : List Rat} {k : Nat}, mulc p (cf q) k = mulc q (cf p) k
  | [], q, k => by
    rw [mulc_nil fun k => cf_nil]
    rfl
  | a :: p, q, k => by
    have e : ∀ k, cf (a :: p) k = (if k = 0 then a else 0) + shift (cf p) k := by
      intro k
      cases k with
      | zero => rw [cf_0, if_pos rfl]; show a = a + 0; rw [Rat.add_zero]
      | succ k => rw [cf_s, if_neg (by omega)]; show _ = 0 + cf p k; rw [Rat.zero_add]
    rw [mulc_congr e, mulc_gadd, mulc_one, mulc_shift]
    show a * cf q k + shift (mulc p (cf q)) k = _
    rw [shift_congr fun k => mulc_comm (p := p) (q := q) (k := k)]
theorem ptim_comm {p q : List Rat} : ptim p q = ptim q p := trim_congr fun k => by rw [cf_pmul, cf_pmul, mulc_comm]
theorem arr_10 {a b : D} : arr [1, 0] [a, b] = [b, a] := rfl
theorem ok6 : Ok 6 5 := okk (by decide) (by decide) (by decide)
theorem tl_bl {n : Nat} {b : Bool} : Tl n (.bl b) 5 := by
  cases b <;> cases n <;> exact ⟨_, rfl, by decide⟩
theorem nu_int (i : Int) : Nu (.int i) (i : Rat) := by
  have := Nu.int (q := (i : Rat)) (Rat.den_intCast i)
  rw [Rat.num_intCast] at this
  exact this
theorem rq_one {i : Int} : rq i 1 = (i : Rat) := by
  rw [rq_eq]
  show (i : Rat) / 1 = i
  grind
theorem pl_int1 {k : Nat} {q : Rat} {i : Int} (h : q = (i : Rat)) (b : Bt k i) : ∃ a : Int, q = (a : Rat) / ((1 : Nat) : Rat) ∧ Bt k a := ⟨i, by rw [h]; show (i : Rat) = (i : Rat) / 1; grind, b⟩
end Ml
set_option Elab.async false
set_option linter.all false
set_option maxRecDepth 100000
set_option maxHeartbeats 4000000
set_option exponentiation.threshold 20000
namespace Ml
open PySem L2 Inn Uv Sl
abbrev castL (l : List Int) : List Rat := l.map fun i : Int => (i : Rat)
theorem eqQ3 {p : List Rat} {R : D → Prop} (h : R (.bl false)) : neT ownE 3 (encQ p) (encQ p) R := m_ne (fun d hd => by
    obtain ⟨x, _, rfl⟩ := List.mem_map.mp hd
    exact eqr_rat) h
end Ml
set_option Elab.async false
set_option linter.all false
set_option maxRecDepth 100000
set_option maxHeartbeats 1000000
set_option exponentiation.threshold 20000
namespace Ml
open PySem L2 Inn Uv Sl
/-! ### what whole numbers have in common -/
def contF (g : Nat) (a : List Int) : Nat := a.foldl (fun g x => Int.gcd (g : Int) x) g
def cont (a : List Int) : Nat := contF 0 a
theorem contF_one : ∀ {a : List Int}, contF 1 a = 1
  | [] => rfl
  | x :: a => by
    show contF (Int.gcd ((1 : Nat) : Int) x) a = 1
    have : Int.gcd ((1 : Nat) : Int) x = 1 := by simp
    rw [this]
    exact contF_one
theorem contF_app {g : Nat} {a b : List Int} : contF g (a ++ b) = contF (contF g a) b := List.foldl_append
theorem contF_mul {c : Int} : ∀ {a : List Int} {g : Nat}, contF (c.natAbs * g) (a.map fun x => c * x) = c.natAbs * contF g a
  | [], _ => rfl
  | x :: a, g => by
    show contF (Int.gcd ((c.natAbs * g : Nat) : Int) (c * x)) (a.map fun x => c * x) = c.natAbs * contF (Int.gcd (g : Int) x) a
    have e : Int.gcd ((c.natAbs * g : Nat) : Int) (c * x) = c.natAbs * Int.gcd (g : Int) x := by
      rw [← Int.gcd_mul_left]
      unfold Int.gcd
      rw [Int.natAbs_mul, Int.natAbs_mul, Int.natAbs_natCast, Int.natAbs_natCast]
    rw [e]
    exact contF_mul
theorem cont_mul {c : Int} {a : List Int} : cont (a.map fun x => c * x) = c.natAbs * cont a := contF_mul (g := 0)
theorem contF_dvd : ∀ {a : List Int} {g : Nat}, contF g a ∣ g ∧ ∀ x ∈ a, ((contF g a : Nat) : Int) ∣ x
  | [], g => ⟨Nat.dvd_refl g, fun _ h => nomatch h⟩
  | x :: a, g => by
    obtain ⟨h1, h2⟩ := contF_dvd (a := a) (g := Int.gcd (g : Int) x)
    have d1 : Int.gcd (g : Int) x ∣ g := by have := Int.gcd_dvd_natAbs_left (g : Int) x; rwa [Int.natAbs_natCast] at this
    refine ⟨Nat.dvd_trans h1 d1, fun y hy => ?_⟩
    rcases List.mem_cons.mp hy with rfl | hy
    · exact Int.dvd_trans (Int.natCast_dvd_natCast.mpr h1) (Int.gcd_dvd_right _ _)
    · exact h2 y hy
theorem cont_dvd {a : List Int} : ∀ x ∈ a, ((cont a : Nat) : Int) ∣ x := (contF_dvd (a := a) (g := 0)).2
theorem cont_zero {a : List Int} (h : cont a = 0) : ∀ x ∈ a, x = 0 := fun x hx => by
  have := cont_dvd x hx
  rw [h] at this
  exact Int.zero_dvd.mp this
theorem m_content {a : List Int} {R : D → Prop} (h : R (.int (cont a : Nat))) : s_content [iL a] R := by
  unfold s_content
  rfl'
  refine forC_map (fun ys s => s = .int (cont ys : Nat)) _ a rfl (fun ys x zs s nx e hs hn => ?_) fun s hs => ?_
  · subst hs
    rfl'
    have es : Int.gcd ((cont ys : Nat) : Int) x = cont (ys ++ [x]) := by unfold cont; rw [contF_app]; rfl
    rw [es]
    cases h1 : (((cont (ys ++ [x]) : Nat) : Int) == 1) with
    | true =>
      rfl'
      have e1 : cont (ys ++ [x]) = 1 := by have := eq_of_beq h1; omega
      have e2 : cont a = 1 := by
        rw [e, show ys ++ x :: zs = (ys ++ [x]) ++ zs by simp]
        unfold cont
        rw [contF_app]
        show contF (cont (ys ++ [x])) zs = 1
        rw [e1]
        exact contF_one
      rw [e2] at h
      exact h
    | false =>
      rfl'
      exact hn _ rfl
  · subst hs
    rfl'
    exact h
abbrev quo (a : List Int) : List Int := a.map fun x => x / ((cont a : Nat) : Int)
theorem quo_mul {a : List Int} : a = (quo a).map fun x => ((cont a : Nat) : Int) * x := by
  rw [List.map_map]
  conv => lhs; rw [← List.map_id a]
  refine List.map_congr_left fun x hx => ?_
  have := cont_dvd x hx
  exact (Int.mul_ediv_cancel' this).symm
theorem cont_quo {a : List Int} (h : cont a ≠ 0) : cont (quo a) = 1 := by
  have e := cont_mul (c := ((cont a : Nat) : Int)) (a := quo a)
  rw [← quo_mul, Int.natAbs_natCast] at e
  have : cont a * 1 = cont a * cont (quo a) := by rw [Nat.mul_one]; exact e
  exact (Nat.eq_of_mul_eq_mul_left (Nat.pos_of_ne_zero h) this).symm
theorem m_wc2 {a : List Int} {R : D → Prop} (hl : a.length ≤ sizeLine) (lg : ∀ x ∈ a, NP x ((cont a : Nat) : Int)) (h : R (iL (quo a))) : s_without_content [iL a] R := by
  unfold s_without_content
  rfl'
  refine m_content ?_
  rfl'
  by_cases h1 : (1 : Int) < ((cont a : Nat) : Int)
  · rw [decide_eq_true h1]
    rfl'
    refine ⟨by rw [List.length_map]; exact hl, mapD_map (φ := fun x => .int (x / ((cont a : Nat) : Int))) (fun x hx R' h' => ?_) ?_⟩
    · rfl'
      refine ⟨⟨by omega, lg x hx⟩, ?_⟩
      rw [fdiv_nat]
      exact h'
    · have e : a.map (fun x => D.int (x / ((cont a : Nat) : Int))) = (quo a).map .int := by rw [List.map_map]; rfl
      rw [e]
      exact h
  · rw [decide_eq_false h1]
    rfl'
    have e : quo a = a := by
      by_cases h0 : cont a = 0
      · conv => rhs; rw [← List.map_id a]
        refine List.map_congr_left fun x hx => ?_
        rw [cont_zero h0 x hx]
        simp
      · have : cont a = 1 := by omega
        conv => rhs; rw [← List.map_id a]
        refine List.map_congr_left fun x hx => ?_
        rw [this]
        simp
    rw [e] at h
    exact h
theorem near_q {x c : Int} (h : c ∣ x) (hq : Bt 4490 (x / c)) : NP x c := np_near (by
  by_cases hx : x = 0
  · rw [hx]
    show (0 : Nat).log2 < _
    rw [Nat.log2_zero]
    omega
  · obtain ⟨d, rfl⟩ := h
    have c0 : c ≠ 0 := fun z => hx (by rw [z, Int.zero_mul])
    have d0 : d ≠ 0 := fun z => hx (by rw [z, Int.mul_zero])
    rw [Int.mul_ediv_cancel_left _ c0] at hq
    have cn : c.natAbs ≠ 0 := Int.natAbs_ne_zero.mpr c0
    rw [Int.natAbs_mul]
    have h1 : c.natAbs < 2 ^ (c.natAbs.log2 + 1) := Nat.lt_log2_self
    have h2 : c.natAbs * d.natAbs < 2 ^ (c.natAbs.log2 + 1) * 2 ^ 4490 := Nat.mul_lt_mul'' h1 hq
    rw [← Nat.pow_add] at h2
    have := (Nat.log2_lt (Nat.mul_ne_zero cn (Int.natAbs_ne_zero.mpr d0))).mpr h2
    omega)
/-- without what its numbers have in common, its head above 0 -/
def bareL (a : List Int) : List Int := if ci (quo (trim a)) ((trim a).length - 1) < 0 then (quo (trim a)).map fun x => -x else quo (trim a)
theorem bare_bt {a : List Int} {k : Nat} (hb : ∀ i ∈ a, Bt k i) : ∀ i ∈ bareL a, Bt k i := by
  have q : ∀ i ∈ quo (trim a), Bt k i := by
    intro i hi
    obtain ⟨x, hx, rfl⟩ := List.mem_map.mp hi
    exact (trim_bt hb x hx).le (by rw [Int.natAbs_ediv_of_dvd (cont_dvd x hx)]; exact Nat.div_le_self _ _)
  unfold bareL
  split
  · intro i hi
    obtain ⟨x, hx, rfl⟩ := List.mem_map.mp hi
    exact (q x hx).neg
  · exact q
theorem m_bare2 {a : List Int} {R : D → Prop} (hl : a.length ≤ 1000) (hb : ∀ i ∈ bareL a, Bt 4490 i) (h : R (iL (bareL a))) : s_bare [iL a] R := by
  have tl : (trim a).length ≤ a.length := trimZ_le
  unfold s_bare
  rfl'
  have hq : ∀ i ∈ quo (trim a), Bt 4490 i := fun i hi => by
    unfold bareL at hb
    split at hb
    · have := (hb _ (List.mem_map_of_mem hi)).neg
      rwa [Int.neg_neg] at this
    · exact hb i hi
  refine m_trimmed (m_wc2 (sz (by omega)) (fun x hx => near_q (cont_dvd x hx) (hq _ (List.mem_map_of_mem hx))) ?_)
  rfl'
  unfold bareL at h
  generalize hp : trim a = p at *
  by_cases h0 : p = []
  · subst h0
    rfl'
    exact h
  · have lp := List.length_pos_iff.mpr h0
    have e1 : (!((quo p).map D.int).isEmpty) = true := by
      cases p with
      | nil => exact absurd rfl h0
      | cons x p => rfl
    rw [e1]
    rfl'
    have lq : (quo p).length = p.length := by rw [List.length_map]
    have ix : atI ((quo p).map D.int) (-1) = some (.int (ci (quo p) (p.length - 1))) := by
      rw [Uv.atI_last (by intro z; rw [z] at e1; cases e1), List.length_map, lq]
      exact iL_get (ci_lt (by omega))
    refine ⟨_, ix, ?_⟩
    rfl'
    by_cases hn : ci (quo p) (p.length - 1) < 0
    · rw [decide_eq_true hn]
      rw [if_pos hn] at h
      rfl'
      exact m_negated (by rw [lq]; exact sz (by omega)) h
    · rw [decide_eq_false hn]
      rw [if_neg hn] at h
      rfl'
      exact h
theorem m_bare {a : List Int} {k : Nat} {R : D → Prop} (hl : a.length ≤ 1000) (hb : ∀ i ∈ a, Bt k i) (hk : k ≤ 4490) (h : R (iL (bareL a))) : s_bare [iL a] R := m_bare2 hl (fun i hi => (bare_bt hb i hi).mono hk) h
theorem map_ci {a : List Int} {f : Int → Int} {i : Nat} (h : i < a.length) : ci (a.map f) i = f (ci a i) := by
  unfold ci
  rw [List.getElem?_map, List.getElem?_eq_getElem h]
  rfl
theorem bare_nil {a : List Int} (h : trim a = []) : bareL a = [] := by
  unfold bareL
  rw [h]
  rfl
/-- bare: what is told of it -/
structure Bare (p s : List Int) : Prop where
  ex : ∃ g : Int, g ≠ 0 ∧ p = s.map fun x => g * x
  c : cont s = 1
  head : 0 < ci s (s.length - 1)
theorem bare_spec {a : List Int} (h : trim a ≠ []) : Bare (trim a) (bareL a) := by
  have ht : Trimd (· == 0) (trim a) := trimZ_trimd
  unfold bareL
  generalize trim a = p at *
  have lp := List.length_pos_iff.mpr h
  have last : ci p (p.length - 1) ≠ 0 := by
    have h1 := ht (ci p (p.length - 1)) (by rw [List.getLast?_eq_getElem?, ci_lt (by omega)])
    simp only [beq_eq_false_iff_ne, ne_eq] at h1
    exact h1
  have c0 : cont p ≠ 0 := fun z => last (cont_zero z _ (List.mem_of_getElem? (ci_lt (by omega))))
  have lq : (quo p).length = p.length := by rw [List.length_map]
  have qm := quo_mul (a := p)
  have q0 : ci (quo p) (p.length - 1) ≠ 0 := fun z => by
    apply last
    have : ci ((quo p).map fun x => ((cont p : Nat) : Int) * x) (p.length - 1) = 0 := by
      rw [map_ci (by omega), z, Int.mul_zero]
    rw [← qm] at this
    exact this
  split
  · rename_i hn
    refine ⟨⟨-((cont p : Nat) : Int), by omega, ?_⟩, ?_, ?_⟩
    · rw [List.map_map]
      conv => lhs; rw [qm]
      refine List.map_congr_left fun x _ => ?_
      show _ = -((cont p : Nat) : Int) * -x
      rw [Int.neg_mul_neg]
    · have e : (quo p).map (fun x => -x) = (quo p).map fun x => (-1) * x := List.map_congr_left fun x _ => by omega
      rw [e, cont_mul, cont_quo c0]
      rfl
    · rw [List.length_map, lq, map_ci (by omega)]
      omega
  · rename_i hn
    refine ⟨⟨((cont p : Nat) : Int), by omega, qm⟩, cont_quo c0, ?_⟩
    rw [lq]
    omega
theorem bare_len {a : List Int} : (bareL a).length = (trim a).length := by
  unfold bareL
  split
  · rw [List.length_map, List.length_map]
  · rw [List.length_map]
theorem map_inj {f : Int → Int} (hf : ∀ x y, f x = f y → x = y) : ∀ {s t : List Int}, s.map f = t.map f → s = t
  | [], [], _ => rfl
  | x :: s, y :: t, h => by
    rw [List.map_cons, List.map_cons] at h
    injection h with h1 h2
    rw [hf x y h1, map_inj hf h2]
/-- one row of numbers but for a number is told by its bare ones -/
theorem bare_one {s t : List Int} {a b : Int} (ha : 0 < a) (hb : 0 < b) (cs : cont s = 1) (ct : cont t = 1) (h : s.map (fun x => a * x) = t.map fun x => b * x) : s = t := by
  have e := congrArg cont h
  rw [cont_mul, cont_mul, cs, ct, Nat.mul_one, Nat.mul_one] at e
  have : a = b := by omega
  subst this
  exact map_inj (fun x y hxy => Int.eq_of_mul_eq_mul_left (by omega) hxy) h
end Ml
set_option Elab.async false
set_option linter.all false
set_option maxRecDepth 100000
set_option maxHeartbeats 1000000
set_option exponentiation.threshold 20000
namespace Ml
open PySem L2 Inn Uv Sl
/-! ### forms -/
def shapeL (a : List Int) : List Int := bareL a ++ List.replicate (a.length - (bareL a).length) 0
theorem flat_zero {j : Nat} : (List.replicate j [D.int 0]).flatten = (List.replicate j (0 : Int)).map D.int := by
  rw [List.flatten_replicate_singleton, List.map_replicate]
theorem m_shaped {a : List Int} {k : Nat} {R : D → Prop} (hl : a.length ≤ 1000) (hb : ∀ i ∈ a, Bt k i) (hk : k ≤ 4490) (h : R (iL (shapeL a))) : s_shaped [iL a] R := by
  have le : (bareL a).length ≤ a.length := by rw [bare_len]; exact trimZ_le
  unfold s_shaped
  rfl'
  refine m_bare hl hb hk ?_
  unfold s_padded
  rfl'
  rw [List.length_map, List.length_map]
  have e : (((a.length : Nat) : Int) - 1 + 1 - ((bareL a).length : Nat)).toNat = a.length - (bareL a).length := by omega
  rw [e]
  refine ⟨sz, ⟨by omega, by omega, sz (by omega)⟩, ?_, ?_⟩
  · simp only [List.length_flatten, List.map_replicate, List.sum_replicate_nat, List.length_cons, List.length_nil]
    exact sz (by omega)
  · rw [flat_zero, ← List.map_append]
    exact h
/-- the last number that is not 0 -/
def lastZ (a : List Int) : Int := ci (trim a) ((trim a).length - 1)
abbrev lastQ (f : List Rat) : Rat := cf (trimQ f) ((trimQ f).length - 1)
abbrev headed (f : List Rat) : List Rat := f.map fun q => q / lastQ f
theorem trim_app0 {a : List Int} {j : Nat} (ha : Trimd (· == 0) a) : trim (a ++ List.replicate j 0) = a := by
  have h1 : TrQ (lft 1 a) := trimd_lft (by decide) ha
  have h2 : lft 1 (trim (a ++ List.replicate j 0)) = lft 1 a := by
    rw [lft_trim (by decide)]
    refine (to_trim h1 fun k => ?_).symm
    have e : lft 1 (a ++ List.replicate j 0) = lft 1 a ++ List.replicate j 0 := by
      show (a ++ List.replicate j 0).map _ = _
      have z : ((0 : Int) : Rat) / ((1 : Nat) : Rat) = 0 := by rw [Rat.intCast_zero]; grind
      rw [List.map_append, List.map_replicate, z]
    rw [e, cf_app0]
  exact lft_inj (by decide) h2
where
  lft_inj {L : Nat} (hL : L ≠ 0) : ∀ {a b : List Int}, lft L a = lft L b → a = b
    | [], [], _ => rfl
    | x :: a, y :: b, h => by
      injection h with h1 h2
      have l : (L : Rat) ≠ 0 := by exact_mod_cast hL
      have : (x : Rat) = (y : Rat) := by grind
      rw [show x = y by exact_mod_cast this, lft_inj hL h2]
theorem bare_trimd {a : List Int} : Trimd (· == 0) (bareL a) := by
  by_cases h : trim a = []
  · rw [bare_nil h]
    exact fun _ h => nomatch h
  · intro x hx
    have sp := bare_spec h
    have l0 : (bareL a).length ≠ 0 := by rw [bare_len]; exact fun z => h (List.length_eq_zero_iff.mp z)
    rw [List.getLast?_eq_getElem?, ci_lt (by omega)] at hx
    cases hx
    have := sp.head
    simp only [beq_eq_false_iff_ne, ne_eq]
    omega
theorem app_trim {a : List Int} : a = trim a ++ List.replicate (a.length - (trim a).length) 0 := by
  have le : (trim a).length ≤ a.length := trimZ_le
  refine List.ext_getElem? fun k => ?_
  by_cases hk : k < (trim a).length
  · rw [List.getElem?_append_left hk]
    show _ = (a.take _)[k]?
    rw [List.getElem?_take]
    unfold trim at hk
    rw [trimZ_len] at hk
    rw [if_pos hk]
  · rw [List.getElem?_append_right (by omega), List.getElem?_replicate]
    by_cases h2 : k < a.length
    · rw [if_pos (by omega)]
      have hk' : tlen (fun x : Int => x == 0) a a.length ≤ k := by
        have : (trim a).length = tlen (fun x : Int => x == 0) a a.length := trimZ_len
        omega
      have := tlen_zero (z := fun x : Int => x == 0) (l := a) hk' h2 (List.getElem?_eq_getElem h2)
      rw [List.getElem?_eq_getElem h2, eq_of_beq this]
    · rw [if_neg (by omega), List.getElem?_eq_none (by omega)]
/-- what is told of a shape -/
structure Shp (f : List Rat) (s : List Int) : Prop where
  pos : 0 < lastZ s
  e : lft (lastZ s).toNat s = headed f
  c : cont s = 1
theorem cont_app0 {a : List Int} {j : Nat} : cont (a ++ List.replicate j 0) = cont a := by
  unfold cont
  rw [contF_app]
  generalize contF 0 a = g
  induction j with
  | zero => rfl
  | succ j ih =>
    rw [List.replicate_succ]
    show contF (Int.gcd (g : Int) 0) _ = g
    rw [Int.gcd_zero_right, Int.natAbs_natCast]
    exact ih
theorem shp_of {L : Nat} {a : List Int} {f : List Rat} (hL : L ≠ 0) (e : lft L a = f) (hf : trimQ f ≠ []) : Shp f (shapeL a) := by
  have et : lft L (trim a) = trimQ f := by rw [lft_trim hL, e]
  have ht : trim a ≠ [] := fun z => hf (by rw [← et, z]; rfl)
  have sp := bare_spec ht
  obtain ⟨g, g0, hg⟩ := sp.ex
  have ls : lastZ (shapeL a) = ci (bareL a) ((bareL a).length - 1) := by
    unfold lastZ shapeL
    rw [trim_app0 bare_trimd]
  have lb : 0 < (bareL a).length := by rw [bare_len]; exact List.length_pos_iff.mpr ht
  have ea : a = (shapeL a).map fun x => g * x := by
    unfold shapeL
    rw [List.map_append, List.map_replicate, Int.mul_zero, bare_len, ← hg]
    exact app_trim
  refine ⟨by rw [ls]; exact sp.head, ?_, by unfold shapeL; rw [cont_app0]; exact sp.c⟩
  have hp := sp.head
  rw [← ls] at hp
  have lq : lastQ f = ((g * lastZ (shapeL a) : Int) : Rat) / (L : Rat) := by
    show cf (trimQ f) ((trimQ f).length - 1) = _
    rw [← et, cf_lft, lft_len, ls]
    congr 2
    have e1 : (trim a).length = (bareL a).length := bare_len.symm
    rw [e1]
    conv => lhs; rw [hg]
    rw [map_ci (by omega)]
  show (shapeL a).map _ = f.map _
  rw [lq, ← e]
  conv => rhs; rw [show lft L a = lft L ((shapeL a).map fun x => g * x) by rw [← ea]]
  rw [List.map_map, List.map_map]
  refine List.map_congr_left fun x _ => ?_
  show (x : Rat) / ((lastZ (shapeL a)).toNat : Rat) = ((g * x : Int) : Rat) / (L : Rat) / (((g * lastZ (shapeL a) : Int) : Rat) / (L : Rat))
  have e2 : ((lastZ (shapeL a)).toNat : Rat) = (lastZ (shapeL a) : Rat) := by
    rw [← Rat.intCast_natCast, Int.toNat_of_nonneg (by omega)]
  rw [e2, Rat.intCast_mul, Rat.intCast_mul]
  have n1 : (g : Rat) ≠ 0 := by exact_mod_cast g0
  have n2 : (L : Rat) ≠ 0 := by exact_mod_cast hL
  have n3 : (lastZ (shapeL a) : Rat) ≠ 0 := by
    intro z
    have : lastZ (shapeL a) = 0 := by exact_mod_cast z
    omega
  generalize (g : Rat) = G at *
  generalize (L : Rat) = Y at *
  generalize (lastZ (shapeL a) : Rat) = Z at *
  grind
theorem shp_eq {f f' : List Rat} {s s' : List Int} (h : Shp f s) (h' : Shp f' s') : s = s' ↔ headed f = headed f' := by
  constructor
  · intro e
    subst e
    rw [← h.e, ← h'.e]
  · intro e
    rw [← h.e, ← h'.e] at e
    have p1 := h.pos
    have p2 := h'.pos
    refine bare_one p2 p1 h.c h'.c ?_
    generalize lastZ s = l at *
    generalize lastZ s' = l' at *
    have n1 : (l.toNat : Rat) ≠ 0 := by exact_mod_cast (show l.toNat ≠ 0 by omega)
    have n2 : (l'.toNat : Rat) ≠ 0 := by exact_mod_cast (show l'.toNat ≠ 0 by omega)
    have t1 : (l.toNat : Rat) = (l : Rat) := by rw [← Rat.intCast_natCast, Int.toNat_of_nonneg (by omega)]
    have t2 : (l'.toNat : Rat) = (l' : Rat) := by rw [← Rat.intCast_natCast, Int.toNat_of_nonneg (by omega)]
    have key : ∀ {s t : List Int}, lft l.toNat s = lft l'.toNat t → s.map (fun x => l' * x) = t.map fun x => l * x := by
      intro s
      induction s with
      | nil =>
        intro t e
        cases t with
        | nil => rfl
        | cons y t => cases e
      | cons x s ih =>
        intro t e
        cases t with
        | nil => cases e
        | cons y t =>
          injection e with e1 e2
          rw [List.map_cons, List.map_cons, ih e2]
          congr 1
          have : ((l' * x : Int) : Rat) = ((l * y : Int) : Rat) := by
            rw [Rat.intCast_mul, Rat.intCast_mul, ← t1, ← t2]
            grind
          exact_mod_cast this
    exact key e
/-- f handed over as it is -/
structure Hv (f : List Rat) (v : D) : Prop where
  ex : ∃ ds, Sq v ds ∧ Nus ds f
/-- a form -/
structure Fo (N k : Nat) (f : List Rat) : Prop where
  pl : Pl N k f
  l : f.length ≤ 25
  z : trimQ f ≠ []
theorem any_ints {L : Nat} (hL : L ≠ 0) {a : List Int} : a.any (· != 0) = decide (trimQ (lft L a) ≠ []) := by
  rw [← lft_trim hL]
  have : (lft L (trim a) ≠ []) ↔ trim a ≠ [] := by
    constructor
    · intro h z; exact h (by rw [z]; rfl)
    · intro h z; exact h (List.map_eq_nil_iff.mp z)
  rw [Bool.eq_iff_iff, decide_eq_true_eq, this, List.any_eq_true]
  constructor
  · rintro ⟨x, hx, h0⟩ z
    rw [app_trim (a := a), z, List.nil_append] at hx
    have := (List.mem_replicate.mp hx).2
    subst this
    cases h0
  · intro h
    have lp := List.length_pos_iff.mpr h
    have hl : Trimd (· == 0) (trim a) := trimZ_trimd
    have h1 := hl (ci (trim a) ((trim a).length - 1)) (by rw [List.getLast?_eq_getElem?, ci_lt (by omega)])
    simp only [beq_eq_false_iff_ne, ne_eq] at h1
    exact ⟨ci (trim a) ((trim a).length - 1), mem_trimZ (z := fun x : Int => x == 0) (l := a) (List.mem_of_getElem? (ci_lt (a := trim a) (i := (trim a).length - 1) (by omega))), by simp [h1]⟩
theorem m_isf {v : D} {ds : List D} {f : List Rat} {N k : Nat} {R : D → Prop} (ok : Ok N k) (hs : Sq v ds) (hd : Nus ds f) (hl : f.length ≤ 25) (hp : Pl N k f) (h : R (.bl (decide (trimQ f ≠ [])))) : s_is_form [v] R := by
  unfold s_is_form
  rfl'
  refine m_isp hs hd hl ?_
  rfl'
  refine m_cleared hs hd (by omega) hp ok.n0 (n6 ok.nb) (by have := ok.kb; omega) fun L a l0 l1 ea ab => ?_
  rfl'
  refine ⟨_, rfl, .inr ⟨a, intsOf_map a, ?_⟩⟩
  rw [any_ints l0, ea]
  exact h
theorem m_shape {v : D} {f : List Rat} {N k : Nat} {R : D → Prop} (ok : Ok N k) (hv : Hv f v) (hf : Fo N k f) (h : ∀ s, Shp f s → s.length = f.length → (∀ i ∈ s, Bt k i) → R (iL s)) : s_shape_of [v] R := by
  obtain ⟨ds, hs, hd⟩ := hv.ex
  have kb := ok.kb
  have fl := hf.l
  unfold s_shape_of
  rfl'
  refine m_isf ok hs hd hf.l hf.pl ?_
  rw [decide_eq_true hf.z]
  rfl'
  refine m_cleared hs hd (by omega) hf.pl ok.n0 (n6 ok.nb) (by omega) fun L a l0 l1 ea ab => ?_
  rfl'
  have la := congrArg List.length ea
  rw [List.length_map] at la
  refine ⟨_, rfl, m_shaped (by omega) ab (by omega) (h _ (shp_of l0 ea hf.z) ?_ ?_)⟩
  · have le : (bareL a).length ≤ a.length := by rw [bare_len]; exact trimZ_le
    unfold shapeL
    rw [List.length_append, List.length_replicate]
    omega
  · intro i hi
    unfold shapeL at hi
    rcases List.mem_append.mp hi with h | h
    · exact bare_bt ab i h
    · rw [(List.mem_replicate.mp h).2]
      exact Bt.zero
theorem eq0_ints {s : OwnE} {x y : Int} {R : Bool → Prop} (h : R (decide (x = y))) : eq0 s (.int x) (.int y) R := by
  show whenB (some (eqV (.int x) (.int y))) R
  have e : eqV (.int x) (.int y) = decide (x = y) := by unfold eqV; rw [Bool.eq_iff_iff]; simp
  rw [e]
  exact h
theorem eqd_ints {s : OwnE} {n : Nat} {x y : Int} {R : Bool → Prop} (h : R (decide (x = y))) : eqD s n (.int x) (.int y) R := by
  cases n <;> exact eq0_ints (s := s) h
theorem eqI_dec : ∀ {s t : List Int} {R : Bool → Prop}, R (decide (s = t)) → eqL (eqD noE 1) (s.map D.int) (t.map D.int) R := by
  have key : ∀ {s t : List Int} {R : Bool → Prop}, R (decide (s = t)) → eqS (eqD noE 1) (s.map D.int) (t.map D.int) R := by
    intro s
    induction s with
    | nil =>
      intro t R h
      cases t with
      | nil => exact h
      | cons y t => exact h
    | cons x s ih =>
      intro t R h
      cases t with
      | nil => exact h
      | cons y t =>
        refine eqd_ints ?_
        by_cases hxy : x = y
        · subst hxy
          rw [decide_eq_true rfl]
          refine ih ?_
          have : decide (x :: s = x :: t) = decide (s = t) := by rw [Bool.eq_iff_iff]; simp
          rw [this] at h
          exact h
        · rw [decide_eq_false hxy]
          have : decide (x :: s = y :: t) = false := decide_eq_false fun z => hxy (List.cons.inj z).1
          rw [this] at h
          exact h
  intro s t R h
  unfold eqL
  split
  · exact key h
  · rename_i hl
    rw [List.length_map, List.length_map] at hl
    have : decide (s = t) = false := decide_eq_false fun z => hl (by rw [z])
    rw [this] at h
    exact h
theorem m_like {v v' : D} {f f' : List Rat} {N k N' k' : Nat} {R : D → Prop} (ok : Ok N k) (ok' : Ok N' k') (hv : Hv f v) (hv' : Hv f' v') (hf : Fo N k f) (hf' : Fo N' k' f') (h : R (.bl (decide (headed f = headed f')))) : s_are_like [v, v'] R := by
  unfold s_are_like
  rfl'
  refine m_shape ok hv hf fun s hs hl hb => m_shape ok' hv' hf' fun s' hs' hl' hb' => ?_
  rfl'
  refine eqI_dec ?_
  have : decide (s = s') = decide (headed f = headed f') := by
    rw [Bool.eq_iff_iff, decide_eq_true_eq, decide_eq_true_eq]
    exact shp_eq hs hs'
  rw [this]
  exact h
end Ml
set_option Elab.async false
set_option linter.all false
set_option maxRecDepth 100000
set_option maxHeartbeats 4000000
set_option exponentiation.threshold 20000
namespace Ml
open PySem L2 Inn Uv Sl
/-! ### law_k41's own reckoning -/
theorem num_nz {q : Rat} (h : q ≠ 0) : q.num ≠ 0 := fun z => h (Rat.num_eq_zero.mp z)
theorem q_over {p q : Rat} (hq : q ≠ 0) : rq (p.num * (q.den : Nat)) ((p.den : Nat) * q.num) = p / q := by
  rw [rq_eq, Rat.intCast_mul, Rat.intCast_mul, Rat.intCast_natCast, Rat.intCast_natCast]
  have e1 := q_of p
  have e2 := q_of q
  have d1 : (p.den : Rat) ≠ 0 := by exact_mod_cast p.den_nz
  have d2 : (q.den : Rat) ≠ 0 := by exact_mod_cast q.den_nz
  have d3 : (q.num : Rat) ≠ 0 := by exact_mod_cast num_nz hq
  generalize (p.num : Rat) = a at *
  generalize (q.num : Rat) = b at *
  generalize (p.den : Rat) = c at *
  generalize (q.den : Rat) = d at *
  conv => rhs; rw [e1, e2]
  grind
theorem m_lover {p q : Rat} {a b : Nat} {R : D → Prop} (hp : Ht a p) (hq : Ht b q) (h0 : q ≠ 0) (hab : a + b ≤ 8000) (h : R (encP (p / q))) : s_law_over [encP p, encP q] R := by
  unfold s_law_over
  rfl'
  refine ⟨_, rfl, _, rfl, ?_⟩
  rfl'
  refine ⟨hp.n.cm hq.d (by omega), _, rfl, _, rfl, ?_⟩
  rfl'
  refine ⟨hp.d.cm hq.n (by omega), m_low (k := a + b) ?_ (hp.d.mul hq.n) (by omega) ?_⟩
  · exact Int.mul_ne_zero (by have := p.den_nz; omega) (num_nz h0)
  · rw [q_over h0]
    exact h
theorem Ht.div {a b : Nat} {p q : Rat} (h : Ht a p) (h' : Ht b q) (h0 : q ≠ 0) : Ht (a + b) (p / q) := by
  have := rq_ht (k := a + b) (a := p.num * (q.den : Nat)) (b := (p.den : Nat) * q.num) (Int.mul_ne_zero (by have := p.den_nz; omega) (num_nz h0)) (h.n.mul h'.d) (h.d.mul h'.n)
  rw [q_over h0] at this
  exact this
theorem take_dropLast {α : Type} {l : List α} {n : Nat} (h : n < l.length) : (l.take (n + 1)).dropLast = l.take n := by
  rw [List.dropLast_eq_take, List.length_take, List.take_take]
  congr 1
  omega
theorem m_ltrim41 {l : List Rat} {R : D → Prop} (hl : l.length ≤ 1000) (h : R (encPP (trimQ l))) : s_law_trim_k41 [encPP l] R := by
  unfold s_law_trim_k41
  rfl'
  refine whC_ind (fun vs => ∃ n, vs = (l.take n).map encP ∧ n ≤ l.length ∧ tlen (fun q : Rat => q.num == 0) l n = tlen (fun q : Rat => q.num == 0) l l.length) (fun vs => vs.length) _ ⟨l.length, by rw [List.take_length], Nat.le_refl _, rfl⟩ ?_
  rintro vs nx ⟨n, rfl, hn, ht⟩ hnx
  rfl'
  refine ⟨sz, ?_⟩
  cases n with
  | zero =>
    refine eql_nil ?_
    rfl'
    rw [tlen_0] at ht
    have e2 : trimQ l = l.take 0 := by unfold trimQ trimZ; rw [← ht]
    rw [← e2]
    exact h
  | succ n =>
    have lt : n < l.length := by omega
    have ln : ((l.take (n + 1)).map encP).length = n + 1 := by rw [List.length_map, List.length_take]; omega
    refine eql_cons (by rw [ln]; omega) ?_
    rfl'
    have ne : (l.take (n + 1)).map encP ≠ [] := by intro z; rw [z] at ln; cases ln
    have ix : atI ((l.take (n + 1)).map encP) (-1) = some (encP l[n]) := by
      rw [Uv.atI_last ne, ln, List.getElem?_map, List.getElem?_take, if_pos (by omega), show n + 1 - 1 = n by omega, List.getElem?_eq_getElem lt]
      rfl
    refine ⟨_, ix, ?_⟩
    rfl'
    refine ⟨_, rfl, ?_⟩
    rfl'
    rw [tlen_s, List.getElem?_eq_getElem lt] at ht
    dsimp only at ht
    by_cases hz : (l[n].num == 0) = true
    · rw [hz]
      rfl'
      rw [if_pos hz] at ht
      refine ⟨ne, hnx _ ⟨n, ?_, by omega, ht⟩ ?_⟩
      · rw [← List.map_dropLast, take_dropLast lt]
      · rw [List.length_dropLast, ln]
        omega
    · rw [if_neg hz] at ht
      rw [Bool.eq_false_iff.mpr hz]
      rfl'
      have e2 : trimQ l = l.take (n + 1) := by unfold trimQ trimZ; rw [← ht]
      rw [← e2]
      exact h
where
  eql_nil {R : Bool → Prop} {s : OwnE} {n : Nat} (h : R true) : eqL (eqD s n) (([] : List Rat).map encP) [] R := h
  eql_cons {R : Bool → Prop} {s : OwnE} {n : Nat} {ds : List D} (hl : 0 < ds.length) (h : R false) : eqL (eqD s n) ds [] R := by
    unfold eqL
    rw [if_neg (by intro z; rw [z] at hl; exact absurd hl (Nat.lt_irrefl _))]
    exact h
theorem last_ne {f : List Rat} (h : trimQ f ≠ []) : lastQ f ≠ 0 := TrQ.last trQ_trim h
theorem hs_last {f : List Rat} {k : Nat} (h : Hs k f) (hk : 0 < k) : Ht k (lastQ f) := (Hs.cf (p := trimQ f) (fun q hq => h q (mem_trimZ hq)) hk)
theorem m_lheaded {f : List Rat} {k : Nat} {R : D → Prop} (hf : Hs k f) (hk : 0 < k) (hk2 : k ≤ 1000) (hl : f.length ≤ 1000) (hz : trimQ f ≠ []) (h : R (encPP (headed f))) : s_law_headed [encPP f] R := by
  have lp := List.length_pos_iff.mpr hz
  unfold s_law_headed
  rfl'
  refine m_ltrim41 hl ?_
  rfl'
  have ix : atI ((trimQ f).map encP) (-1) = some (encP (lastQ f)) := by
    rw [Uv.atI_last (by intro z; exact hz (List.map_eq_nil_iff.mp z)), List.length_map]
    exact iQ_get (cf_lt (by omega))
  refine ⟨_, ix, ?_⟩
  refine ⟨by rw [List.length_map]; exact sz (by omega), mapD_map (φ := fun q => encP (q / lastQ f)) (fun q hq R' h' => ?_) ?_⟩
  · rfl'
    exact m_lover (hf q hq) (hs_last hf hk) (last_ne hz) (by omega) h'
  · have e : f.map (fun q => encP (q / lastQ f)) = (headed f).map encP := by rw [List.map_map]; rfl
    rw [e]
    exact h
theorem m_lpassed {a : Addr} {q : Rat} {k : Nat} {R : D → Prop} (hq : Ht k q) (hk : k ≤ 9000) (h : ∀ d, Nu d q → R d) : s_law_passed [.pot a, encP q] R := by
  have rat : mkM 0 s_Ratio_init [] [.int q.num, .int (q.den : Nat)] R := m_mk (by have := q.den_nz; omega) hq.d hk (by
    have e : rq q.num ((q.den : Nat) : Int) = q := Rat.num_divInt_den q
    rw [e]
    exact h _ .rat)
  unfold s_law_passed
  rfl'
  refine ⟨_, rfl, ?_⟩
  rfl'
  rw [den_eq]
  by_cases hd : q.den = 1
  · rw [decide_eq_true hd]
    rfl'
    refine ⟨_, rfl, ?_⟩
    rfl'
    refine ⟨⟨by decide, by decide, by decide⟩, ?_⟩
    rw [abs_nat]
    cases decide (((q.num.natAbs : Nat) : Int) < 10 ^ Int.toNat 6) with
    | true =>
      rfl'
      refine m_draw (by decide) (by decide) fun i hi => ?_
      rfl'
      cases ((i : Int) == 0) with
      | true =>
        rfl'
        exact ⟨_, rfl, h _ (.int hd)⟩
      | false =>
        rfl'
        exact ⟨_, rfl, _, rfl, rat⟩
    | false =>
      rfl'
      exact ⟨_, rfl, _, rfl, rat⟩
  · rw [decide_eq_false hd]
    rfl'
    exact ⟨_, rfl, _, rfl, rat⟩
theorem m_lgivenf {a : Addr} {f : List Rat} {k : Nat} {R : D → Prop} (hf : Hs k f) (hk : k ≤ 9000) (hl : f.length ≤ 1000) (h : ∀ v, Hv f v → R v) : s_law_given_form [.pot a, encPP f] R := by
  unfold s_law_given_form
  rfl'
  refine ⟨by rw [List.length_map]; exact sz (by omega), mapD_any (Q := Nu) (fun q hq R' h' => ?_) fun ds hd => ?_⟩
  · rfl'
    exact m_lpassed (hf q hq) hk h'
  · rfl'
    refine m_draw (by decide) (by decide) fun i hi => ?_
    rfl'
    cases ((i : Int) == 0) with
    | true =>
      rfl'
      exact h _ ⟨_, .t, hd⟩
    | false =>
      rfl'
      exact h _ ⟨_, .l, hd⟩
theorem m_ltold {p : List Rat} {R : D → Prop} (hl : p.length ≤ 1000) (h : R (encPP p)) : s_law_told [encQ p] R := by
  unfold s_law_told
  bv_omega
  rfl'
  bv_omega
  refine ⟨by rw [List.length_map]; exact sz (by omega), mapD_map (φ := fun _ => D.bl true) (fun q _ R' h' => by bv_omega; exact h') ?_⟩
  rfl'
  refine ⟨p.map fun _ => true, ?_, ?_⟩
  · rw [show p.map (fun _ => D.bl true) = (p.map fun _ => true).map D.bl by rw [List.map_map]; rfl]
    exact blsOf_map _
  · have : (p.map fun _ => true).all id = true := by simp
    rw [this]
    rfl'
    refine ⟨by rw [List.length_map]; exact sz (by omega), mapD_map (φ := encP) (fun q _ R' h' => ?_) h⟩
    unfold s_Ratio_top s_Ratio_bottom
    rfl'
    exact ⟨⟨_, rfl⟩, _, rfl, ⟨_, rfl⟩, _, rfl, sz, h'⟩
/-! a form of the law -/
structure Lf (f : List Rat) : Prop where
  q : ∀ q ∈ f, Lq q
  l : f.length ≤ 8
  n : 0 < f.length
  z : trimQ f ≠ []
theorem trim_ne {f : List Rat} {i : Nat} (h : cf f i ≠ 0) : trimQ f ≠ [] := fun z => h (by rw [← cf_trimZ, z, cf_nil])
theorem m_lentry {a : Addr} {R : D → Prop} (h : ∀ q, Lq q → R (encP q)) : s_law_entry [.pot a] R := by
  unfold s_law_entry
  rfl'
  refine ⟨sz, sz, sz, sz, sz, sz, sz, sz, sz, sz, m_pick (by decide) (by decide) fun x hx => ?_⟩
  simp only [List.mem_cons, List.not_mem_nil, or_false] at hx
  have lit : ∀ (q : Rat) (n : Int) (b : Nat) (z : Int), q.num = n → q.den = b → q = (z : Rat) / ((6 : Nat) : Rat) → Bt 5 z → R (.tup [.int n, .int (b : Nat)]) := fun q n b z h1 h2 h3 h4 => by
    have := h q ⟨z, h3, h4⟩
    rw [encP_lit h1 h2] at this
    exact this
  rcases hx with rfl | rfl | rfl | rfl | rfl | rfl | rfl | rfl | rfl
  · exact h 0 lq0
  · exact h 0 lq0
  · exact lit 1 1 1 6 (by decide +kernel) (by decide +kernel) (by decide +kernel) (by decide)
  · exact lit (-1) (-1) 1 (-6) (by decide +kernel) (by decide +kernel) (by decide +kernel) (by decide)
  · exact lit 2 2 1 12 (by decide +kernel) (by decide +kernel) (by decide +kernel) (by decide)
  · exact lit 3 3 1 18 (by decide +kernel) (by decide +kernel) (by decide +kernel) (by decide)
  · exact lit (-4) (-4) 1 (-24) (by decide +kernel) (by decide +kernel) (by decide +kernel) (by decide)
  · exact lit (rq 1 2) 1 2 3 (by decide +kernel) (by decide +kernel) (by decide +kernel) (by decide)
  · exact lit (rq (-5) 3) (-5) 3 (-10) (by decide +kernel) (by decide +kernel) (by decide +kernel) (by decide)
theorem all_P {β : Type} {Q : Rat → Prop} : ∀ {xs : List β} {ys : List D}, All2 (fun _ y => ∃ q, Q q ∧ y = encP q) xs ys → ∃ p : List Rat, ys = p.map encP ∧ (∀ q ∈ p, Q q) ∧ p.length = xs.length
  | _, _, .nil => ⟨[], rfl, (fun _ h => nomatch h), rfl⟩
  | _, _, .cons ⟨q, hq, rfl⟩ t => by
    obtain ⟨p, rfl, hp, hl⟩ := all_P t
    refine ⟨q :: p, rfl, fun r hr => ?_, by rw [List.length_cons, List.length_cons, hl]⟩
    rcases List.mem_cons.mp hr with rfl | hr
    · exact hq
    · exact hp r hr
end Ml
set_option Elab.async false
set_option linter.all false
set_option maxRecDepth 100000
set_option maxHeartbeats 4000000
set_option exponentiation.threshold 20000
namespace Ml
open PySem L2 Inn Uv Sl
theorem Lf.hs {f : List Rat} (h : Lf f) : Hs 5 f := fun q hq => rn_lq (h.q q hq)
theorem Lf.fo {f : List Rat} (h : Lf f) : Fo 6 5 f := ⟨fun q hq => (h.q q hq).ex, by have := h.l; omega, h.z⟩
theorem Hv.tl {f : List Rat} {v : D} {n : Nat} (h : Hv f v) (hs : ∀ q ∈ f, Sn q) (hl : f.length ≤ 30) : Tl (n + 1) v (30 * 2022 + 3) := by
  obtain ⟨ds, hq, hd⟩ := h.ex
  have hd2 := nus_tl (n := n) hd hs
  cases hq with
  | l => exact tl_lst hd2 (by rw [hd.len]; exact hl)
  | t => exact tl_tup hd2 (by rw [hd.len]; exact hl)
theorem eqr_P {q : Rat} {n : Nat} : EqR (n + 1) (encP q) := fun R h => by
  show eqS (eqD ownE n) [.int q.num, .int (q.den : Nat)] [.int q.num, .int (q.den : Nat)] R
  refine eqs_refl h fun d hd => ?_
  simp only [List.mem_cons, List.not_mem_nil, or_false] at hd
  rcases hd with rfl | rfl <;> exact eqr_int
theorem neP {p : List Rat} {R : D → Prop} {n : Nat} (h : R (.bl false)) : neT ownE (n + 1) (encPP p) (encPP p) R := m_ne (fun d hd => by
  obtain ⟨x, _, rfl⟩ := List.mem_map.mp hd
  exact eqr_P) h
theorem eqP {p : List Rat} {R : D → Prop} {n : Nat} (h : R (.bl true)) : eqT ownE (n + 1) (encPP p) (encPP p) R := m_eq (fun d hd => by
  obtain ⟨x, _, rfl⟩ := List.mem_map.mp hd
  exact eqr_P) h
theorem headed_last {f : List Rat} (hz : trimQ f ≠ []) : trimQ (headed f) ≠ [] ∧ lastQ (headed f) = 1 := by
  have l0 := last_ne hz
  have e : trimQ (headed f) = (trimQ f).map fun q => q / lastQ f := by
    refine (to_trim (TrQ.map trQ_trim fun x hx => ?_) fun k => ?_).symm
    · grind
    · rw [cf_map (f := fun q => q / lastQ f) (by grind), cf_map (f := fun q => q / lastQ f) (by grind), cf_trimZ]
  have lp := List.length_pos_iff.mpr hz
  refine ⟨fun z => hz (by rw [e] at z; exact List.map_eq_nil_iff.mp z), ?_⟩
  show cf (trimQ (headed f)) ((trimQ (headed f)).length - 1) = 1
  rw [e, List.length_map, cf_map (f := fun q => q / lastQ f) (by grind)]
  show lastQ f / lastQ f = 1
  grind
theorem headed2 {f : List Rat} (hz : trimQ f ≠ []) : headed (headed f) = headed f := by
  show (headed f).map (fun q => q / lastQ (headed f)) = headed f
  rw [(headed_last hz).2]
  conv => rhs; rw [← List.map_id (headed f)]
  exact List.map_congr_left fun q _ => by show q / 1 = q; grind
theorem headed_len {f : List Rat} : (headed f).length = f.length := List.length_map _
/-- a form over 36 -/
structure Fw (f : List Rat) : Prop where
  pl : Pl (6 * 6) 10 f
  l : f.length ≤ 10
theorem Fw.hs {f : List Rat} (h : Fw f) : Hs 10 f := h.pl.hs (by decide) (by decide) (by decide)
theorem ok36 : Ok (6 * 6) 10 := okk (by decide) (by decide) (by decide)
theorem tl_bls {n : Nat} {b c : Bool} : Tl (n + 1) (.lst [.bl b, .bl c]) (2 * 7 + 3) := tl_lst (b := 5) (fun d hd => by
  simp only [List.mem_cons, List.not_mem_nil, or_false] at hd
  rcases hd with rfl | rfl <;> exact tl_bl) (Nat.le_refl _)
end Ml
set_option Elab.async false
set_option linter.all false
set_option maxRecDepth 100000
set_option maxHeartbeats 4000000
set_option exponentiation.threshold 20000
namespace Ml
open PySem L2 Inn Uv Sl
theorem nus_ints : ∀ l : List Int, Nus (l.map D.int) (castL l)
  | [] => .nil
  | i :: l => .cons (nu_int i) (nus_ints l)
theorem hv_ints (l : List Int) : Hv (castL l) (iL l) := ⟨_, .l, nus_ints l⟩
theorem fo_ints {l : List Int} (hl : l.length ≤ 25) (hb : ∀ i ∈ l, Bt 9 i) (hz : trimQ (castL l) ≠ []) : Fo 1 9 (castL l) := ⟨fun q hq => by
  obtain ⟨i, hi, rfl⟩ := List.mem_map.mp hq
  exact pl_int1 rfl (hb i hi), by rw [List.length_map]; exact hl, hz⟩
end Ml
set_option Elab.async false
set_option linter.all false
set_option maxRecDepth 100000
set_option maxHeartbeats 4000000
set_option exponentiation.threshold 20000
namespace Ml
open PySem L2 Inn Uv Sl
/-! ### a Ratio's own operators -/
theorem Ht.sub {a b : Nat} {p q : Rat} (h : Ht a p) (h' : Ht b q) : Ht (a + b + 1) (p - q) := by
  rw [Rat.sub_eq_add_neg]
  exact h.add ⟨by rw [Rat.neg_num]; exact h'.n.neg, by rw [Rat.neg_den]; exact h'.d⟩
section
variable {p q : Rat} {d : D} {a b : Nat} {R : D → Prop}
end
end Ml
set_option Elab.async false
set_option linter.all false
set_option maxRecDepth 100000
set_option maxHeartbeats 4000000
set_option exponentiation.threshold 20000
namespace Ml
open PySem L2 Inn Uv Sl
/-! ### dividing without fractions -/
def downs : Nat → List D
  | 0 => []
  | k + 1 => .int (k : Nat) :: downs k
theorem down_list : ∀ (k : Nat) (a0 : Int), (k = 0 ∨ a0 = (k : Int) - 1) → (List.range k).map (fun i => D.int (a0 + (i : Nat) * -1)) = downs k
  | 0, _, _ => rfl
  | k + 1, a0, h => by
    have h : a0 = (k : Int) := by omega
    rw [List.range_succ_eq_map, List.map_cons, List.map_map]
    have e : (List.range k).map ((fun i : Nat => D.int (a0 + (i : Nat) * -1)) ∘ Nat.succ) = downs k := by
      rw [← down_list k (a0 - 1) (by omega)]
      refine List.map_congr_left fun i _ => ?_
      show D.int (a0 + ((i + 1 : Nat) : Int) * -1) = D.int (a0 - 1 + (i : Nat) * -1)
      congr 1
      omega
    rw [e]
    show D.int (a0 + ((0 : Nat) : Int) * -1) :: _ = D.int (k : Nat) :: downs k
    rw [show a0 + ((0 : Nat) : Int) * -1 = (k : Int) by omega]
theorem forC_down {S : Type} {f : D → S → (S → Prop) → (S → Prop) → Prop} {fin : S → Prop} (I : Nat → S → Prop) : ∀ (k : Nat) (s : S), I k s → (∀ j s nx, j < k → I (j + 1) s → (∀ s', I j s' → nx s') → f (.int (j : Nat)) s nx fin) → (∀ s, I 0 s → fin s) → forC f fin (downs k) s
  | 0, s, h, _, e => e s h
  | k + 1, s, h, st, e => st k s _ (Nat.lt_succ_self k) h fun s' h' => forC_down I k s' h' (fun j s nx hj => st j s nx (Nat.lt_succ_of_lt hj)) e
/-- the head -/
abbrev hd (b : List Int) : Int := ci b (b.length - 1)
def gg (b r : List Int) : Nat := Int.gcd (hd b) (hd r)
def upI (b r : List Int) : Int := hd b / (gg b r : Nat)
def dnI (b r : List Int) : Int := hd r / (gg b r : Nat)
def nxt (b : List Int) (s : Nat) (r : List Int) : List Int := (r.take s).map (fun x => upI b r * x) ++ (((r.take (r.length - 1)).drop s).zip b).map fun p => upI b r * p.1 - dnI b r * p.2
def runD (b : List Int) : Nat → Int × List Int × List Int → Int × List Int × List Int
  | 0, t => t
  | k + 1, (pw, q, r) => runD b k (pw * upI b r, dnI b r :: q.map (fun x => upI b r * x), nxt b k r)
section
variable {b r : List Int} {s k : Nat}
theorem gg_ne (hb : hd b ≠ 0) : (gg b r : Int) ≠ 0 := by
  have : gg b r ≠ 0 := fun z => hb (Int.gcd_eq_zero_iff.mp z).1
  omega
theorem up_gg (b r : List Int) : upI b r * (gg b r : Nat) = hd b := Int.ediv_mul_cancel (Int.gcd_dvd_left ..)
theorem dn_gg (b r : List Int) : dnI b r * (gg b r : Nat) = hd r := Int.ediv_mul_cancel (Int.gcd_dvd_right ..)
theorem up_ne (hb : hd b ≠ 0) : upI b r ≠ 0 := fun z => hb (by rw [← up_gg b r, z, Int.zero_mul])
theorem up_bt (hb : hd b ≠ 0) (h : Bt k (hd b)) : Bt k (upI b r) := by
  refine h.le ?_
  rw [← up_gg b r, Int.natAbs_mul]
  exact Nat.le_mul_of_pos_right _ (Int.natAbs_pos.mpr (gg_ne hb))
theorem dn_bt (hb : hd b ≠ 0) (h : Bt k (hd r)) : Bt k (dnI b r) := by
  refine h.le ?_
  rw [← dn_gg b r, Int.natAbs_mul]
  exact Nat.le_mul_of_pos_right _ (Int.natAbs_pos.mpr (gg_ne hb))
theorem nxt_len (h : r.length = s + b.length) : (nxt b s r).length = s + (b.length - 1) := by
  unfold nxt
  rw [List.length_append, List.length_map, List.length_map, List.length_zip, List.length_drop, List.length_take, List.length_take]
  omega
/-- the numbers b, put s places up -/
def shf (b : List Int) (s i : Nat) : Int := if s ≤ i then ci b (i - s) else 0
theorem ci_app {a c : List Int} {i : Nat} : ci (a ++ c) i = if i < a.length then ci a i else ci c (i - a.length) := by
  unfold ci
  split
  · rename_i h
    rw [List.getElem?_append_left h]
  · rename_i h
    rw [List.getElem?_append_right (by omega)]
theorem ci_take {a : List Int} {n i : Nat} (h : i < n) : ci (a.take n) i = ci a i := by
  unfold ci
  rw [List.getElem?_take_of_lt h]
theorem nxt_ci (hb : hd b ≠ 0) (hm : b ≠ []) (h : r.length = s + b.length) (i : Nat) : ci (nxt b s r) i = upI b r * ci r i - dnI b r * shf b s i := by
  have lb : 0 < b.length := List.length_pos_iff.mpr hm
  by_cases h1 : i < s
  · unfold nxt shf
    rw [ci_app, List.length_map, List.length_take, if_pos (by omega), map_ci (by rw [List.length_take]; omega), ci_take h1, if_neg (by omega)]
    omega
  · by_cases h2 : i < s + (b.length - 1)
    · unfold nxt shf
      rw [ci_app, List.length_map, List.length_take, if_neg (by omega), if_pos (by omega)]
      rw [show min s r.length = s by omega]
      have g1 : (((r.take (r.length - 1)).drop s).zip b)[i - s]? = some (ci r i, ci b (i - s)) := by
        rw [List.getElem?_zip_eq_some]
        refine ⟨?_, ci_lt (by omega)⟩
        rw [List.getElem?_drop, List.getElem?_take_of_lt (by omega), show s + (i - s) = i by omega]
        exact ci_lt (by omega)
      show ((List.map _ _)[i - s]?).getD 0 = _
      rw [List.getElem?_map, g1]
      rfl
    · rw [ci_ge (by rw [nxt_len h]; omega)]
      by_cases h3 : i = s + (b.length - 1)
      · subst h3
        unfold shf
        rw [if_pos (by omega), show s + (b.length - 1) - s = b.length - 1 by omega]
        have e1 : ci r (s + (b.length - 1)) = hd r := by
          unfold hd
          rw [h, show s + b.length - 1 = s + (b.length - 1) by omega]
        rw [e1]
        show 0 = upI b r * hd r - dnI b r * hd b
        have eb := up_gg b r
        have er := dn_gg b r
        rw [← eb, ← er]
        generalize upI b r = u, dnI b r = d
        grind
      · unfold shf
        rw [if_pos (by omega), ci_ge (a := r) (by omega), ci_ge (a := b) (by omega)]
        omega
theorem mem_ci {x : Int} {a : List Int} (h : x ∈ a) : ∃ i, i < a.length ∧ ci a i = x := by
  obtain ⟨i, hi, e⟩ := List.getElem_of_mem h
  exact ⟨i, hi, by unfold ci; rw [List.getElem?_eq_getElem hi, e]; rfl⟩
theorem shf_bt {i : Nat} (h : ∀ x ∈ b, Bt k x) : Bt k (shf b s i) := by
  unfold shf
  split
  · exact ci_bt h
  · exact Bt.zero
theorem nxt_bt {B : Nat} (hb : hd b ≠ 0) (hm : b ≠ []) (h : r.length = s + b.length) (bb : ∀ x ∈ b, Bt B x) (br : ∀ x ∈ r, Bt k x) : ∀ x ∈ nxt b s r, Bt (k + (B + 1)) x := fun x hx => by
  obtain ⟨i, _, rfl⟩ := mem_ci hx
  rw [nxt_ci hb hm h]
  have h1 : Bt (k + B) (upI b r * ci r i) := by
    rw [Nat.add_comm]
    exact (up_bt hb (ci_bt bb)).mul (ci_bt br)
  have h2 : Bt (k + B) (dnI b r * shf b s i) := (dn_bt hb (ci_bt br)).mul (shf_bt bb)
  exact h1.sub h2
end
theorem cut_mid {α : Type} {l : List α} {s : Nat} (h : s < l.length) : cut l (some (s : Int)) (some (-1)) = (l.take (l.length - 1)).drop s := by
  unfold Uv.cut
  have e1 : HT.sIx l.length 0 (some (s : Int)) = s := by
    unfold HT.sIx
    simp only
    rw [if_neg (by omega)]
    omega
  have e2 : HT.sIx l.length l.length (some (-1)) = l.length - 1 := by
    unfold HT.sIx
    simp
    omega
  rw [e1, e2, List.drop_take]
/-- what the rounds of divided_bare keep: k shifts are left -/
structure Dv (b : List Int) (B K : Nat) (F : Int × List Int × List Int) (k : Nat) (t : Int × List Int × List Int) : Prop where
  kk : k ≤ K
  run : runD b k t = F
  len : 0 < k → t.2.2.length = k + (b.length - 1)
  ql : t.2.1.length ≤ K - k
  pb : Bt ((K - k + 1) * (B + 1)) t.1
  qb : ∀ x ∈ t.2.1, Bt ((K - k + 1) * (B + 1)) x
  rb : ∀ x ∈ t.2.2, Bt ((K - k + 1) * (B + 1)) x
theorem Dv.step {b : List Int} {B K k : Nat} {F t : Int × List Int × List Int} (hb : hd b ≠ 0) (hm : b ≠ []) (bb : ∀ x ∈ b, Bt B x) (h : Dv b B K F (k + 1) t) : Dv b B K F k (t.1 * upI b t.2.2, dnI b t.2.2 :: t.2.1.map (fun x => upI b t.2.2 * x), nxt b k t.2.2) := by
  obtain ⟨pw, q, r⟩ := t
  have lb : 0 < b.length := List.length_pos_iff.mpr hm
  have hk := h.kk
  have hl : r.length = k + b.length := by have := h.len (Nat.succ_pos k); show r.length = _; simp only at this; omega
  have e : (K - k + 1) * (B + 1) = (K - (k + 1) + 1) * (B + 1) + (B + 1) := by
    rw [show K - k + 1 = (K - (k + 1) + 1) + 1 by omega, Nat.succ_mul]
  have ub : Bt B (upI b r) := up_bt hb (ci_bt bb)
  refine ⟨by omega, h.run, fun _ => nxt_len hl, ?_, ?_, ?_, ?_⟩
  · have := h.ql
    show (dnI b r :: q.map _).length ≤ _
    rw [List.length_cons, List.length_map]
    simp only at this
    omega
  · rw [e]
    exact (h.pb.mul ub).mono (by omega)
  · rw [e]
    intro x hx
    rcases List.mem_cons.mp hx with rfl | hx
    · exact (dn_bt hb (ci_bt h.rb)).mono (by omega)
    · obtain ⟨y, hy, rfl⟩ := List.mem_map.mp hx
      exact (ub.mul (h.qb y hy)).mono (by omega)
  · rw [e]
    exact nxt_bt hb hm hl bb h.rb
theorem Dv.init {a b : List Int} {B : Nat} (hm : b ≠ []) (ba : ∀ x ∈ a, Bt B x) (h0 : 0 < B) : Dv b B (a.length + 1 - b.length) (runD b (a.length + 1 - b.length) (1, [], a)) (a.length + 1 - b.length) (1, [], a) := by
  have e : (a.length + 1 - b.length - (a.length + 1 - b.length) + 1) * (B + 1) = B + 1 := by rw [Nat.sub_self, Nat.zero_add, Nat.one_mul]
  refine ⟨Nat.le_refl _, rfl, fun h => ?_, Nat.zero_le _, ?_, (fun _ h => nomatch h), ?_⟩
  · have := List.length_pos_iff.mpr hm
    show a.length = _
    omega
  · rw [e]
    exact Bt.of 2 (show (1 : Int).natAbs < 2 by decide) (Nat.le_trans (by decide : 2 ≤ 2 ^ 1) (Nat.pow_le_pow_right (by decide) (by omega)))
  · rw [e]
    exact fun x hx => (ba x hx).mono (by omega)
theorem beta_le {K k B : Nat} (hK : K ≤ 61) (hB : B ≤ 6000) : (K - k + 1) * (B + 1) ≤ 372062 := by
  have : (K - k + 1) * (B + 1) ≤ 62 * 6001 := Nat.mul_le_mul (by omega) (by omega)
  omega
theorem m_divided {a b : List Int} {B : Nat} {R : D → Prop} (hb : hd b ≠ 0) (la : a.length ≤ 60) (lb : b.length ≤ 1000) (ba : ∀ x ∈ a, Bt B x) (bb : ∀ x ∈ b, Bt B x) (hB0 : 0 < B) (hB : B ≤ 6000)
    (h : ∀ t, t = runD b (a.length + 1 - b.length) (1, [], a) → R (.tup [.int t.1, iL (trim t.2.1), iL (trim t.2.2)])) : s_divided_bare [iL a, iL b] R := by
  have hm : b ≠ [] := fun z => hb (by rw [z]; rfl)
  have lb0 : 0 < b.length := List.length_pos_iff.mpr hm
  have last : ∀ {l : List Int}, 0 < l.length → atI (l.map D.int) (-1) = some (.int (hd l)) := fun {l} h0 => by
    rw [Uv.atI_last (by intro z; rw [List.map_eq_nil_iff] at z; rw [z] at h0; exact absurd h0 (by decide)), List.length_map]
    exact iL_get (ci_lt (by omega))
  unfold s_divided_bare
  rfl'
  refine ⟨sz, _, last lb0, sz, ?_⟩
  rw [List.length_map, List.length_map]
  refine ⟨a.length + 1 - b.length, ?_, ?_⟩
  · have := RgC.neg (i := (a.length : Int) - (b.length : Int)) (j := -1) (by omega) (by omega) (by decide) (by decide)
    rwa [show ((a.length : Int) - (b.length : Int) - -1).toNat = a.length + 1 - b.length by omega] at this
  rw [down_list _ _ (by omega)]
  refine forC_down (fun k s => ∃ t, Dv b B (a.length + 1 - b.length) (runD b (a.length + 1 - b.length) (1, [], a)) k t ∧ s = (D.int t.1, iL t.2.1, iL t.2.2)) _ _ ⟨(1, [], a), Dv.init hm ba hB0, rfl⟩ (fun j s nx hj hs hn => ?_) fun s hs => ?_
  · obtain ⟨⟨pw, q, r⟩, hd', rfl⟩ := hs
    have hs' := hd'.step hb hm bb
    have lr : r.length = j + b.length := by have := hd'.len (Nat.succ_pos j); simp only at this; omega
    have ql := hd'.ql
    simp only at ql
    have beta := beta_le (K := a.length + 1 - b.length) (k := j + 1) (B := B) (by omega) hB
    have pb := hd'.pb
    have qb := hd'.qb
    have rb := hd'.rb
    simp only at pb qb rb
    have ub : Bt B (upI b r) := up_bt hb (ci_bt bb)
    have db : Bt ((a.length + 1 - b.length - (j + 1) + 1) * (B + 1)) (dnI b r) := dn_bt hb (ci_bt rb)
    have gb : Bt B ((gg b r : Nat) : Int) := Nat.lt_of_le_of_lt (Nat.le_of_dvd (Int.natAbs_pos.mpr hb) (Int.gcd_dvd_natAbs_left ..)) (ci_bt bb : Bt B (hd b))
    rfl'
    refine ⟨_, last (by omega), ?_⟩
    rfl'
    refine ⟨⟨gg_ne hb, np (Nat.lt_of_lt_of_le (gb.log hB0) (by omega))⟩, _, last (by omega), ?_⟩
    rfl'
    have eu : (hd b).fdiv (((hd b).gcd (hd r) : Nat) : Int) = upI b r := fdiv_nat
    have ed : (hd r).fdiv (((hd b).gcd (hd r) : Nat) : Int) = dnI b r := fdiv_nat
    rw [eu, ed, cut_to, cut_mid (by rw [List.length_map]; omega), List.length_map, ← List.map_take, ← List.map_take, ← List.map_drop, zip_ints]
    refine ⟨⟨gg_ne hb, np (Nat.lt_of_lt_of_le (gb.log hB0) (by omega))⟩, sz, sz (by rw [List.length_map, List.length_take]; omega), mapD_map (φ := fun x => D.int (upI b r * x)) (fun x hx R' h' => ?_) ⟨sz (by simp only [List.length_map, List.length_zip, List.length_drop, List.length_take]; omega), mapD_map (φ := fun p : Int × Int => D.int (upI b r * p.1 - dnI b r * p.2)) (fun p hp R' h' => ?_) ⟨?_, sz, m_scaled_by (sz (by omega)) ub qb (by omega) ?_⟩⟩⟩
    · rfl'
      exact ⟨ub.cm (rb x (List.mem_of_mem_take hx)) (by omega), h'⟩
    · rfl'
      obtain ⟨h1, h2⟩ := List.of_mem_zip hp
      exact ⟨ub.cm (rb _ (List.mem_of_mem_take (List.mem_of_mem_drop h1))) (by omega), db.cm (bb _ h2) (by omega), h'⟩
    · simp only [List.length_map, List.length_zip, List.length_drop, List.length_take]
      exact sz (by omega)
    · rw [if_neg (up_ne hb)]
      rfl'
      refine ⟨sz (by rw [List.length_map, List.length_map]; omega), pb.cm ub (by omega), hn _ ⟨_, hs', ?_⟩⟩
      have en : iL (nxt b j r) = D.lst (List.map (fun x => D.int (upI b r * x)) (List.take j r) ++ List.map (fun p : Int × Int => D.int (upI b r * p.1 - dnI b r * p.2)) ((List.drop j (List.take (r.length - 1) r)).zip b)) := by
        unfold nxt
        show D.lst (List.map _ _) = _
        rw [List.map_append, List.map_map, List.map_map]
        rfl
      show _ = (D.int (pw * upI b r), D.lst (D.int (dnI b r) :: List.map D.int (List.map (fun i => upI b r * i) q)), iL (nxt b j r))
      rw [en, List.length_map]
      rfl
  · obtain ⟨t, ht, rfl⟩ := hs
    rfl'
    refine m_trimmed (m_trimmed ⟨sz, h t ht.run⟩)
end Ml
set_option Elab.async false
set_option linter.all false
set_option maxRecDepth 100000
set_option maxHeartbeats 4000000
set_option exponentiation.threshold 20000
namespace Ml
open PySem L2 Inn Uv Sl
/-! ### what divides, by worths -/
def Dvd (p q : List Rat) : Prop := (∃ i, cf q i ≠ 0) ∧ ∃ u : List Rat, ∀ x, pev p x = pev q x * pev u x
theorem pev_none {r : List Rat} (h : ∀ i, cf r i = 0) {x : Rat} : pev r x = 0 := pev_zero h
theorem rem_dvd {p o u r : List Rat} {c : Rat} (hc : c ≠ 0) (to : TrQ o) (no : o ≠ []) (h : ∀ x, c * pev p x = pev o x * pev u x + pev r x) (hr : ∀ i, o.length - 1 ≤ i → cf r i = 0) : (∀ i, cf r i = 0) ↔ ∃ u : List Rat, ∀ x, pev p x = pev o x * pev u x := by
  constructor
  · intro h0
    refine ⟨psm (1 / c) u, fun x => ?_⟩
    have := h x
    rw [pev_none h0] at this
    rw [pev_psm]
    grind
  · rintro ⟨v, hv⟩
    have e : ∀ x, pev (ptim o (psub (psm c v) u)) x = pev r x := fun x => by
      have := h x
      rw [hv] at this
      rw [pev_tim, pev_psub, pev_psm]
      grind
    have ec := cf_of_pev e
    by_cases hw : psub (psm c v) u = []
    · intro i
      rw [← ec i, cf_ptim, hw]
      exact mulc_nil fun k => cf_nil
    · have tw : TrQ (psub (psm c v) u) := trQ_trim
      have l := tim_len to tw no hw
      have lo := List.length_pos_iff.mpr no
      have lw := List.length_pos_iff.mpr hw
      have ne : ptim o (psub (psm c v) u) ≠ [] := fun z => by rw [z] at l; simp only [List.length_nil] at l; omega
      have := TrQ.last (p := ptim o (psub (psm c v) u)) trQ_trim ne
      rw [ec, l, hr _ (by omega)] at this
      exact absurd rfl this
/-- put s places up -/
def shq (s : Nat) (l : List Rat) : List Rat := List.replicate s 0 ++ l
theorem pev_shq {l : List Rat} {x : Rat} : ∀ {s : Nat}, pev (shq s l) x = x ^ s * pev l x
  | 0 => by
    show pev l x = _
    rw [Rat.pow_zero, Rat.one_mul]
  | s + 1 => by
    show (0 : Rat) + x * pev (shq s l) x = _
    rw [pev_shq, Rat.pow_succ]
    grind
theorem cf_shq {l : List Rat} {i : Nat} : ∀ {s : Nat}, cf (shq s l) i = if s ≤ i then cf l (i - s) else 0 := by
  intro s
  unfold shq cf
  split
  · rename_i h
    rw [List.getElem?_append_right (by rw [List.length_replicate]; exact h), List.length_replicate]
  · rename_i h
    rw [List.getElem?_append_left (by rw [List.length_replicate]; omega), List.getElem?_replicate, if_pos (by omega)]
    rfl
/-- one step of dividing: what is left less c times o, s places up -/
theorem pev_step {r r' o : List Rat} {t a : Rat} {s : Nat} (h : ∀ i, cf r' i = a * cf r i - t * cf (shq s o) i) (x : Rat) : pev r' x = a * pev r x - t * (x ^ s * pev o x) := by
  have e : ∀ i, cf r' i = cf (zipL (· + ·) (r.map (a * ·)) ((shq s o).map (-t * ·))) i := fun i => by
    rw [h i, cf_add, cf_smul, cf_smul]
    grind
  rw [pev_congr e, pev_add, pev_smul, pev_smul, pev_shq]
  grind
/-! ### the program's own dividing -/
theorem runD_sem {b : List Int} (hb : hd b ≠ 0) : ∀ (k : Nat) (t : Int × List Int × List Int) (a : List Int), (0 < k → t.2.2.length = k + (b.length - 1)) → (∀ i, k + (b.length - 1) ≤ i → ci t.2.2 i = 0) → t.1 ≠ 0 → (∀ x : Rat, (t.1 : Rat) * pev (lft 1 a) x = x ^ k * pev (lft 1 b) x * pev (lft 1 t.2.1) x + pev (lft 1 t.2.2) x) →
    (runD b k t).1 ≠ 0 ∧ (∀ i, b.length - 1 ≤ i → ci (runD b k t).2.2 i = 0) ∧ ∀ x : Rat, ((runD b k t).1 : Rat) * pev (lft 1 a) x = pev (lft 1 b) x * pev (lft 1 (runD b k t).2.1) x + pev (lft 1 (runD b k t).2.2) x
  | 0, (pw, q, r), a, _, hz, h0, h => ⟨h0, fun i hi => hz i (by omega), fun x => by
      have := h x
      rw [Rat.pow_zero, Rat.one_mul] at this
      exact this⟩
  | k + 1, (pw, q, r), a, hl, hz, h0, h => by
    have hm : b ≠ [] := fun z => hb (by rw [z]; rfl)
    have lb : 0 < b.length := List.length_pos_iff.mpr hm
    have lr : r.length = k + b.length := by have := hl (Nat.succ_pos k); simp only at this; omega
    have u0 := up_ne (r := r) hb
    have cfi : ∀ {c : List Int} {i : Nat}, cf (lft 1 c) i = (ci c i : Rat) := fun {c i} => by
      rw [cf_lft]
      show (ci c i : Rat) / 1 = _
      grind
    refine runD_sem hb k (pw * upI b r, dnI b r :: q.map (fun x => upI b r * x), nxt b k r) a (fun _ => nxt_len lr) (fun i hi => ci_ge (by show (nxt b k r).length ≤ i; rw [nxt_len lr]; exact hi)) (Int.mul_ne_zero h0 u0) fun x => ?_
    have st : pev (lft 1 (nxt b k r)) x = (upI b r : Rat) * pev (lft 1 r) x - (dnI b r : Rat) * (x ^ k * pev (lft 1 b) x) := pev_step (fun i => by
      rw [cfi, cfi, nxt_ci hb hm lr, Rat.intCast_sub, Rat.intCast_mul, Rat.intCast_mul, cf_shq]
      congr 2
      unfold shf
      split
      · exact cfi.symm
      · rfl) x
    have qe : pev (lft 1 (q.map fun x => upI b r * x)) x = (upI b r : Rat) * pev (lft 1 q) x := by
      have : lft 1 (q.map fun x => upI b r * x) = (lft 1 q).map ((upI b r : Rat) * ·) := by
        show List.map _ (List.map _ _) = List.map _ (List.map _ _)
        rw [List.map_map, List.map_map]
        refine List.map_congr_left fun i _ => ?_
        show ((upI b r * i : Int) : Rat) / 1 = (upI b r : Rat) * ((i : Rat) / 1)
        rw [Rat.intCast_mul]
        grind
      rw [this, pev_smul]
    have he := h x
    simp only at he
    show ((pw * upI b r : Int) : Rat) * pev (lft 1 a) x = x ^ k * pev (lft 1 b) x * (((dnI b r : Int) : Rat) / 1 + x * pev (lft 1 (q.map fun x => upI b r * x)) x) + pev (lft 1 (nxt b k r)) x
    rw [st, qe, Rat.intCast_mul]
    rw [Rat.pow_succ] at he
    grind
theorem pev1 {L : Nat} (hL : L ≠ 0) {a : List Int} {x : Rat} : pev (lft 1 a) x = (L : Rat) * pev (lft L a) x := by
  rw [pev_lft hL]
  have : (L : Rat) ≠ 0 := by exact_mod_cast hL
  grind
/-- nothing is left just if it divides -/
theorem run_dvd {L M : Nat} {a b : List Int} {p q : List Rat} (hL : L ≠ 0) (hM : M ≠ 0) (ea : lft L a = p) (eb : lft M b = q) (tb : Trimd (· == 0) b) (nb : b ≠ []) : trim (runD b (a.length + 1 - b.length) (1, [], a)).2.2 = [] ↔ Dvd p q := by
  have tq : TrQ (lft M b) := trimd_lft hM tb
  have nq : lft M b ≠ [] := fun z => nb (List.map_eq_nil_iff.mp z)
  have hb : hd b ≠ 0 := fun z => by
    have := TrQ.last tq nq
    rw [lft_len, cf_lft] at this
    apply this
    show ((hd b : Int) : Rat) / _ = 0
    rw [z]
    show (0 : Rat) / _ = 0
    grind
  have cfi : ∀ {c : List Int} {i : Nat}, cf (lft 1 c) i = (ci c i : Rat) := fun {c i} => by
    rw [cf_lft]
    show (ci c i : Rat) / 1 = _
    grind
  have lb := List.length_pos_iff.mpr nb
  obtain ⟨h1, h2, h3⟩ := runD_sem hb (a.length + 1 - b.length) (1, [], a) a (fun h => by show a.length = _; omega) (fun i hi => ci_ge (by show a.length ≤ i; omega)) (show (1 : Int) ≠ 0 by decide) fun x => by
    show ((1 : Int) : Rat) * _ = _ * (0 : Rat) + _
    rw [show ((1 : Int) : Rat) = 1 from rfl]
    grind
  generalize runD b (a.length + 1 - b.length) (1, [], a) = t at *
  have key := rem_dvd (p := p) (o := q) (u := psm (M : Rat) (lft 1 t.2.1)) (r := lft 1 t.2.2) (c := (t.1 : Rat) * (L : Rat)) ?_ (eb ▸ tq) (eb ▸ nq) (fun x => ?_) fun i hi => ?_
  · have z : trim t.2.2 = [] ↔ ∀ i, cf (lft 1 t.2.2) i = 0 := by
      constructor
      · intro z i
        have := cf_trimZ (p := lft 1 t.2.2) (k := i)
        rw [← this, ← lft_trim (by decide), z]
        rfl
      · intro z
        have : trimQ (lft 1 t.2.2) = [] := (to_trim (p := []) (fun a e => nomatch e) fun k => by rw [cf_nil, z]).symm
        rw [← lft_trim (by decide)] at this
        exact List.map_eq_nil_iff.mp this
    rw [z, key]
    constructor
    · exact fun h => ⟨⟨_, TrQ.last (eb ▸ tq) (eb ▸ nq)⟩, h⟩
    · exact fun h => h.2
  · have l0 : (L : Rat) ≠ 0 := by exact_mod_cast hL
    have t0 : (t.1 : Rat) ≠ 0 := by exact_mod_cast h1
    exact fun z => (Rat.mul_eq_zero.mp z).elim t0 l0
  · have := h3 x
    rw [pev1 hL, ea, pev1 hM (a := b), eb] at this
    rw [pev_psm]
    grind
  · rw [cfi, h2 i (by rw [← eb, lft_len] at hi; exact hi)]
    rfl
end Ml
set_option Elab.async false
set_option linter.all false
set_option maxRecDepth 100000
set_option maxHeartbeats 4000000
set_option exponentiation.threshold 20000
namespace Ml
open PySem L2 Inn Uv Sl
/-! ### whole numbers in a list, their sizes together -/
def l1 (a : List Int) : Nat := (a.map Int.natAbs).sum
/-! ### known whole ones -/
def wl : List (List Int) := [[-6, 2], [-4, 2], [-2, 2], [0, 2], [2, 2], [4, 2], [6, 2], [1, 2], [-3, 2], [2, 0, 2], [-4, 0, 2], [2, 2, 2], [4, 4, 2], [-2, 2, 2], [1, 0, 2], [-4, 0, 0, 2], [2, 2, 0, 2], [2, -6, 0, 2], [2, 0, 2, 2], [2, 0, 0, 0, 2], [2, 2, 0, 0, 2], [4, 0, 0, 0, 2]]
theorem wl_ok : ∀ a ∈ wl, 2 ≤ a.length ∧ a.length ≤ 5 ∧ l1 a ≤ 10 ∧ hd a = 2 := by decide
/-- items: known whole ones, their degrees together -/
structure Its (n : Nat) (its : List (List Int)) : Prop where
  k : ∀ a ∈ its, a ∈ wl
  d : (its.map fun a => a.length - 1).sum ≤ n
theorem Its.app {n m : Nat} {a b : List (List Int)} (h : Its n a) (h' : Its m b) : Its (n + m) (a ++ b) := ⟨fun x hx => (List.mem_append.mp hx).elim (h.k x) (h'.k x), by rw [List.map_append, List.sum_append]; have := h.d; have := h'.d; omega⟩
theorem Its.one {a : List Int} (h : a ∈ wl) : Its (a.length - 1) [a] := ⟨fun x hx => by rw [List.mem_singleton.mp hx]; exact h, by simp⟩
theorem Its.len {n : Nat} : ∀ {its : List (List Int)}, Its n its → its.length ≤ n
  | [], _ => Nat.zero_le _
  | a :: its, h => by
    have l := (wl_ok a (h.k a List.mem_cons_self)).1
    have d := h.d
    rw [List.map_cons, List.sum_cons] at d
    have := Its.len (n := n - 1) (its := its) ⟨fun x hx => h.k x (List.mem_cons_of_mem _ hx), by omega⟩
    rw [List.length_cons]
    omega
/-- their product -/
structure Wp (n : Nat) (w : List Int) : Prop where
  ne : w ≠ []
  l : w.length ≤ n + 1
  b : ∃ m, m ≤ n ∧ hd w = 2 ^ m ∧ l1 w ≤ 10 ^ m
end Ml
set_option Elab.async false
set_option linter.all false
set_option maxRecDepth 100000
set_option maxHeartbeats 4000000
set_option exponentiation.threshold 20000
namespace Ml
open PySem L2 Inn Uv Sl
/-! ### the law's own dividing, with Ratios -/
theorem Rn.cf {N k : Nat} {p : List Rat} (h : Pl N k p) (i : Nat) : Rn N k (Ml.cf p i) := by
  by_cases hi : i < p.length
  · exact h.rn (List.mem_of_getElem? (cf_lt hi))
  · rw [cf_ge (by omega)]
    exact ⟨0, by rw [Rat.intCast_zero]; grind, Bt.zero⟩
/-- what is left after a step -/
def lft1 (o : List Rat) (s : Nat) (r : List Rat) : List Rat := (List.range r.length).map fun i => if s ≤ i ∧ i - s < o.length then cf r i - cf r (s + o.length - 1) / cf o (o.length - 1) * cf o (i - s) else cf r i
theorem lft1_len {o r : List Rat} {s : Nat} : (lft1 o s r).length = r.length := by
  unfold lft1
  rw [List.length_map, List.length_range]
theorem cf_lft1 {o r : List Rat} {s : Nat} (h : s + o.length ≤ r.length) (i : Nat) : cf (lft1 o s r) i = 1 * cf r i - cf r (s + o.length - 1) / cf o (o.length - 1) * cf (shq s o) i := by
  have e : cf (lft1 o s r) i = if i < r.length then (if s ≤ i ∧ i - s < o.length then cf r i - cf r (s + o.length - 1) / cf o (o.length - 1) * cf o (i - s) else cf r i) else 0 := cf_tab
  rw [e, cf_shq]
  by_cases h1 : i < r.length
  · rw [if_pos h1]
    by_cases h2 : s ≤ i ∧ i - s < o.length
    · rw [if_pos h2, if_pos h2.1]
      grind
    · rw [if_neg h2]
      by_cases h3 : s ≤ i
      · rw [if_pos h3, cf_ge (p := o) (k := i - s) (by omega)]
        grind
      · rw [if_neg h3]
        grind
  · rw [if_neg h1, cf_ge (p := r) (by omega), cf_ge (p := o) (k := i - s) (by omega)]
    split <;> grind
theorem alg1 (X H E M : Rat) (h0 : H ≠ 0) (e0 : E ≠ 0) : X / M = E * (X * H) / (M * (E * H)) := by
  have := Rat.mul_inv_cancel _ h0
  have := Rat.mul_inv_cancel _ e0
  rw [Rat.div_def, Rat.div_def, Rat.inv_mul_rev, Rat.inv_mul_rev]
  grind
theorem alg2 (X H T Y M N E : Rat) (h0 : H ≠ 0) (e0 : E ≠ 0) (n0 : N ≠ 0) : X / M - T / M / (H / N) * (Y / N) = E * (X * H - T * Y) / (M * (E * H)) := by
  have h1 := Rat.mul_inv_cancel _ h0
  have h2 := Rat.mul_inv_cancel _ e0
  have h3 := Rat.mul_inv_cancel _ n0
  rw [Rat.div_def, Rat.div_def, Rat.div_def, Rat.div_def, Rat.div_def, Rat.div_def, Rat.inv_mul_rev, Rat.inv_mul_rev, Rat.inv_mul_rev, Rat.inv_inv]
  grind
theorem pl_lft1 {o r : List Rat} {s N M k b : Nat} {H : Int} (hN : N ≠ 0) (hM : M ≠ 0) (h : Pl M k r) (ho : Pl N b o) (hH : cf o (o.length - 1) = (H : Rat) / (N : Rat)) (h0 : H ≠ 0) (bH : Bt b H) : Pl (M * H.natAbs) (k + b + 1) (lft1 o s r) := by
  intro q hq
  have key : ∀ i, ∃ a : Int, cf r i = (a : Rat) / (M : Rat) ∧ Bt k a := fun i => (Rn.cf h i).ex
  have keyo : ∀ i, ∃ a : Int, cf o i = (a : Rat) / (N : Rat) ∧ Bt b a := fun i => (Rn.cf ho i).ex
  have M0 : (M : Rat) ≠ 0 := by exact_mod_cast hM
  have N0 : (N : Rat) ≠ 0 := by exact_mod_cast hN
  have H0 : (H : Rat) ≠ 0 := by exact_mod_cast h0
  have sg : ∃ e : Int, e.natAbs = 1 ∧ ((H.natAbs : Nat) : Int) = e * H := by
    rcases Int.natAbs_eq H with z | z
    · exact ⟨1, rfl, by omega⟩
    · exact ⟨-1, rfl, by omega⟩
  obtain ⟨e, e1, eH⟩ := sg
  have e0 : (e : Rat) ≠ 0 := by
    have : e ≠ 0 := fun z => by rw [z] at e1; cases e1
    exact_mod_cast this
  have cM : ((M * H.natAbs : Nat) : Rat) = (M : Rat) * ((e : Rat) * (H : Rat)) := by
    rw [Rat.natCast_mul, ← Rat.intCast_natCast H.natAbs, eH, Rat.intCast_mul]
  have eb : ∀ {j : Nat} {z : Int}, Bt j z → Bt j (e * z) := fun {j z} hz => by
    unfold Bt
    rw [Int.natAbs_mul, e1, Nat.one_mul]
    exact hz
  obtain ⟨i, _, rfl⟩ := List.mem_map.mp hq
  obtain ⟨x, hx, bx⟩ := key i
  have hxH : ∃ a : Int, cf r i = (a : Rat) / ((M * H.natAbs : Nat) : Rat) ∧ Bt (k + b + 1) a := by
    refine ⟨e * (x * H), ?_, (eb (bx.mul bH)).mono (by omega)⟩
    rw [hx, cM, Rat.intCast_mul, Rat.intCast_mul]
    exact alg1 _ _ _ _ H0 e0
  split
  · obtain ⟨t, ht, bt⟩ := key (s + o.length - 1)
    obtain ⟨y, hy, bY⟩ := keyo (i - s)
    refine ⟨e * (x * H - t * y), ?_, eb ((bx.mul bH).sub (bt.mul bY))⟩
    rw [hx, ht, hy, hH, cM, Rat.intCast_mul, Rat.intCast_sub, Rat.intCast_mul, Rat.intCast_mul]
    exact alg2 _ _ _ _ _ _ _ H0 e0 N0
  · exact hxH
/-- the loop's keeping: j steps done -/
structure Lv (p o : List Rat) (N b : Nat) (k : Nat) (r : List Rat) : Prop where
  l : r.length = p.length
  z : ∀ i, k + o.length - 1 ≤ i → cf r i = 0
  u : ∃ u : List Rat, ∀ x, 1 * pev p x = pev o x * pev u x + pev r x
  h : ∃ j M, j + k ≤ p.length + 1 - o.length ∧ M ≠ 0 ∧ M < 2 ^ (b * (j + 1)) ∧ Pl M ((b + 1) * (j + 1)) r
theorem Lv.step {p o r : List Rat} {N b k : Nat} (hN : N ≠ 0) (ho : Pl N b o) (no : o ≠ []) (c0 : cf o (o.length - 1) ≠ 0) (hk : k + o.length ≤ p.length) (h : Lv p o N b (k + 1) r) : Lv p o N b k (lft1 o k r) := by
  have lo := List.length_pos_iff.mpr no
  have lr := h.l
  have c1 := cf_lft1 (o := o) (r := r) (s := k) (by omega)
  refine ⟨by rw [lft1_len, h.l], fun i hi => ?_, ?_, ?_⟩
  · rw [c1]
    by_cases hk2 : i = k + o.length - 1
    · subst hk2
      rw [cf_shq, if_pos (by omega), show k + o.length - 1 - k = o.length - 1 by omega]
      grind
    · rw [h.z i (by omega), cf_shq]
      split
      · rw [cf_ge (p := o) (k := i - k) (by omega)]
        grind
      · grind
  · obtain ⟨u, hu⟩ := h.u
    refine ⟨zipL (· + ·) u (shq k [cf r (k + o.length - 1) / cf o (o.length - 1)]), fun x => ?_⟩
    rw [hu x, pev_step c1 x, pev_add, pev_shq, pev_one]
    grind
  · obtain ⟨j, M, hj, M0, Mb, pl⟩ := h.h
    obtain ⟨H, hH, bH⟩ := (Rn.cf ho (o.length - 1)).ex
    have h0 : H ≠ 0 := fun z => c0 (by rw [hH, z, Rat.intCast_zero]; grind)
    refine ⟨j + 1, M * H.natAbs, by omega, Nat.mul_ne_zero M0 (by omega), ?_, ?_⟩
    · have : b * (j + 1 + 1) = b * (j + 1) + b := Nat.mul_succ ..
      rw [this, Nat.pow_add]
      have h1 : M * H.natAbs < 2 ^ (b * (j + 1)) * H.natAbs := Nat.mul_lt_mul_of_pos_right Mb (by omega)
      exact Nat.lt_of_lt_of_le h1 (Nat.mul_le_mul_left _ (Nat.le_of_lt bH))
    · have : (b + 1) * (j + 1 + 1) = (b + 1) * (j + 1) + b + 1 := by rw [Nat.mul_succ]; omega
      rw [this]
      exact pl_lft1 hN M0 pl ho hH h0 bH
end Ml
set_option Elab.async false
set_option linter.all false
set_option maxRecDepth 100000
set_option maxHeartbeats 4000000
set_option exponentiation.threshold 20000
namespace Ml
open PySem L2 Inn Uv Sl
/-- a value that is a polynomial -/
structure Gw (v : D) (qs : List Rat) : Prop where
  ex : ∃ ds, Sq v ds ∧ Nus ds qs
  l : qs.length ≤ 25
  pl : Pl 24576 50 qs
theorem Gw.po {v : D} {qs : List Rat} (h : Gw v qs) : Po 24576 50 v qs := ⟨h.ex, h.l, h.pl⟩
/-- a value that is none -/
structure Bv (v : D) : Prop where
  p : ∀ R : D → Prop, R (.bl false) → s_is_poly [v] R
  k : ∀ (p : List Rat) (R : D → Prop), R (.bl false) → s_law_looks [encQ p, v] R
end Ml
set_option Elab.async false
set_option linter.all false
set_option maxRecDepth 100000
set_option maxHeartbeats 4000000
set_option exponentiation.threshold 20000
namespace Ml
open PySem L2 Inn Uv Sl
/-- a number times the product, told -/
structure Pp (n : Nat) (p : List Rat) : Prop where
  pl : Pl 24576 46 p
  l : p.length ≤ n + 1
  ne : p ≠ []
  z : cf p (p.length - 1) ≠ 0
structure Cn (d : D) (c : Rat) : Prop where
  nu : Nu d c
  ex : ∃ C : Int, c = (C : Rat) / 6 ∧ C ≠ 0 ∧ Bt 6 C
end Ml
set_option Elab.async false
set_option linter.all false
set_option maxRecDepth 100000
set_option maxHeartbeats 4000000
set_option exponentiation.threshold 20000
namespace Ml
open PySem L2 Inn Uv Sl
theorem Pp.mono {n : Nat} {p : List Rat} (h : Pp n p) : Pl 24576 50 p := h.pl.mono (by decide)
theorem Pp.len {n : Nat} {p : List Rat} (h : Pp n p) : 0 < p.length := List.length_pos_iff.mpr h.ne
end Ml
set_option Elab.async false
set_option linter.all false
set_option maxRecDepth 100000
set_option maxHeartbeats 4000000
set_option exponentiation.threshold 20000
namespace Ml
open PySem L2 Inn Uv Sl
/-! ### more of them than places -/
theorem nodup_le {α : Type} [DecidableEq α] : ∀ {l l' : List α}, l.Nodup → (∀ x ∈ l, x ∈ l') → l.length ≤ l'.length
  | [], _, _, _ => Nat.zero_le _
  | x :: l, l', h, hs => by
    have hx : x ∈ l' := hs x List.mem_cons_self
    have hn := List.nodup_cons.mp h
    have := nodup_le (l := l) (l' := l'.erase x) hn.2 fun y hy => (List.mem_erase_of_ne (fun (z : y = x) => hn.1 (z ▸ hy))).mpr (hs y (List.mem_cons_of_mem _ hy))
    rw [List.length_erase_of_mem hx] at this
    have := List.length_pos_of_mem hx
    rw [List.length_cons]
    omega
theorem pigeon {α : Type} [DecidableEq α] {n : Nat} {F : Nat → α} {l : List α} (h : ∀ i < n, F i ∈ l) (hl : l.length < n) : ∃ i j, i < j ∧ j < n ∧ F i = F j := Classical.byContradiction fun no => by
  have nd : ((List.range n).map F).Nodup := by
    unfold List.Nodup
    rw [List.pairwise_map]
    refine List.Pairwise.imp_of_mem ?_ List.pairwise_lt_range
    intro i j hi hj hij e
    exact no ⟨i, j, hij, List.mem_range.mp hj, e⟩
  have := nodup_le nd fun x hx => by
    obtain ⟨i, hi, rfl⟩ := List.mem_map.mp hx
    exact h i (List.mem_range.mp hi)
  rw [List.length_map, List.length_range] at this
  omega
/-- all rows of M numbers from 0 to C -/
def box (C : Nat) : Nat → List (List Int)
  | 0 => [[]]
  | M + 1 => (List.range (C + 1)).flatMap fun i => (box C M).map fun v => ((i : Nat) : Int) :: v
theorem flat_len {α β : Type} {f : α → List β} {n : Nat} : ∀ {l : List α}, (∀ x ∈ l, (f x).length = n) → (l.flatMap f).length = l.length * n
  | [], _ => by simp
  | x :: l, h => by
    rw [List.flatMap_cons, List.length_append, h x List.mem_cons_self, flat_len fun y hy => h y (List.mem_cons_of_mem _ hy), List.length_cons, Nat.succ_mul]
    omega
theorem box_len {C : Nat} : ∀ M, (box C M).length = (C + 1) ^ M
  | 0 => rfl
  | M + 1 => by
    unfold box
    rw [flat_len (n := (C + 1) ^ M) fun x _ => by rw [List.length_map, box_len M], List.length_range, Nat.pow_succ, Nat.mul_comm]
theorem box_mem {C : Nat} : ∀ {M : Nat} {v : List Int}, v.length = M → (∀ x ∈ v, 0 ≤ x ∧ x ≤ C) → v ∈ box C M
  | 0, [], _, _ => by simp [box]
  | M + 1, x :: v, hl, h => by
    unfold box
    obtain ⟨h1, h2⟩ := h x List.mem_cons_self
    rw [List.mem_flatMap]
    refine ⟨x.toNat, List.mem_range.mpr (by omega), List.mem_map.mpr ⟨v, box_mem (by simpa using hl) fun y hy => h y (List.mem_cons_of_mem _ hy), ?_⟩⟩
    rw [Int.toNat_of_nonneg h1]
/-! sums of products -/
def dotN (c v : Nat → Int) (n : Nat) : Int := ((List.range n).map fun j => c j * v j).sum
theorem dotN_s {c v : Nat → Int} {n : Nat} : dotN c v (n + 1) = dotN c v n + c n * v n := by
  unfold dotN
  rw [List.range_succ, List.map_append, List.sum_append]
  simp
theorem dotN_sub {c v w : Nat → Int} : ∀ n, dotN c (fun j => v j - w j) n = dotN c v n - dotN c w n
  | 0 => rfl
  | n + 1 => by
    rw [dotN_s, dotN_s, dotN_s, dotN_sub n, Int.mul_sub]
    omega
theorem dotN_le {c v : Nat → Int} {A Q : Nat} : ∀ n, (∀ j < n, (c j).natAbs ≤ A) → (∀ j < n, (v j).natAbs ≤ Q) → (dotN c v n).natAbs ≤ n * (A * Q)
  | 0, _, _ => Nat.zero_le _
  | n + 1, hc, hv => by
    rw [dotN_s]
    have h1 := dotN_le n (fun j hj => hc j (by omega)) (fun j hj => hv j (by omega))
    have h2 := Int.natAbs_add_le (dotN c v n) (c n * v n)
    have h3 : (c n * v n).natAbs ≤ A * Q := by
      rw [Int.natAbs_mul]
      exact Nat.mul_le_mul (hc n (by omega)) (hv n (by omega))
    rw [Nat.succ_mul]
    omega
theorem mod_pow {b i j : Nat} : ∀ n, (∀ k < n, i / b ^ k % b = j / b ^ k % b) → i % b ^ n = j % b ^ n
  | 0, _ => by rw [Nat.pow_zero, Nat.mod_one, Nat.mod_one]
  | n + 1, h => by rw [Nat.mod_pow_succ, Nat.mod_pow_succ, mod_pow n fun k hk => h k (by omega), h n (by omega)]
/-- few equations over whole numbers have a small solution -/
theorem siegel {N M A : Nat} (hA : 0 < A) (hM : M < N) (c : Nat → Nat → Int) (hc : ∀ k < M, ∀ j < N, (c k j).natAbs ≤ A) : ∃ v : Nat → Int, (∃ j, j < N ∧ v j ≠ 0) ∧ (∀ j < N, (v j).natAbs ≤ (2 * N * A) ^ M) ∧ ∀ k < M, dotN (c k) v N = 0 := by
  let Q := (2 * N * A) ^ M
  let B := Q + 1
  let C := 2 * (N * (A * Q))
  let dg : Nat → Nat → Int := fun i j => ((i / B ^ j % B : Nat) : Int)
  let F : Nat → List Int := fun i => (List.range M).map fun k => dotN (c k) (dg i) N + ((N * (A * Q) : Nat) : Int)
  have dgQ : ∀ i j, (dg i j).natAbs ≤ Q := fun i j => by
    show ((i / B ^ j % B : Nat) : Int).natAbs ≤ Q
    rw [Int.natAbs_natCast]
    have := Nat.mod_lt (i / B ^ j) (show 0 < B by omega)
    omega
  have cap : (C + 1) ^ M < B ^ N := by
    have h0 : 0 < N * A := Nat.mul_pos (by omega) hA
    have h1 : C + 1 ≤ (2 * N * A) * B := by
      show 2 * (N * (A * Q)) + 1 ≤ (2 * N * A) * (Q + 1)
      have e : 2 * (N * (A * Q)) = (2 * N * A) * Q := by simp only [Nat.mul_assoc]
      rw [e, Nat.mul_add, Nat.mul_one]
      have : 2 * N * A = 2 * (N * A) := Nat.mul_assoc ..
      omega
    have h2 : (C + 1) ^ M ≤ Q * B ^ M := by
      refine Nat.le_trans (Nat.pow_le_pow_left h1 M) ?_
      rw [Nat.mul_pow]
      exact Nat.le_refl _
    have h3 : Q * B ^ M < B ^ (M + 1) := by
      rw [Nat.pow_succ, Nat.mul_comm]
      exact Nat.mul_lt_mul_of_pos_left (show Q < B by omega) (Nat.pow_pos (by omega))
    exact Nat.lt_of_le_of_lt h2 (Nat.lt_of_lt_of_le h3 (Nat.pow_le_pow_right (by omega) hM))
  obtain ⟨i, j, hij, hj, e⟩ := pigeon (n := B ^ N) (F := F) (l := box C M) (fun i _ => by
    refine box_mem (by simp [F]) fun x hx => ?_
    obtain ⟨k, hk, rfl⟩ := List.mem_map.mp hx
    have := dotN_le (Q := Q) N (hc k (List.mem_range.mp hk)) fun j _ => dgQ i j
    show 0 ≤ _ ∧ _ ≤ ((2 * (N * (A * Q)) : Nat) : Int)
    omega) (by rw [box_len]; exact cap)
  refine ⟨fun k => dg j k - dg i k, ?_, fun k hk => ?_, fun k hk => ?_⟩
  · refine Classical.byContradiction fun no => ?_
    have all : ∀ k < N, j / B ^ k % B = i / B ^ k % B := fun k hk => Decidable.byContradiction fun ne => no ⟨k, hk, fun z => ne (by
      have z : ((j / B ^ k % B : Nat) : Int) - ((i / B ^ k % B : Nat) : Int) = 0 := z
      omega)⟩
    have := mod_pow N all
    rw [Nat.mod_eq_of_lt hj, Nat.mod_eq_of_lt (by omega)] at this
    omega
  · have h1 := Nat.mod_lt (j / B ^ k) (show 0 < B by omega)
    have h2 := Nat.mod_lt (i / B ^ k) (show 0 < B by omega)
    show (((j / B ^ k % B : Nat) : Int) - ((i / B ^ k % B : Nat) : Int)).natAbs ≤ Q
    omega
  · have e2 : (F i)[k]? = (F j)[k]? := by rw [e]
    have g : ∀ i, (F i)[k]? = some (dotN (c k) (dg i) N + ((N * (A * Q) : Nat) : Int)) := fun i => by
      show ((List.range M).map _)[k]? = _
      rw [List.getElem?_map, List.getElem?_range hk]
      rfl
    rw [g, g] at e2
    have e3 := Option.some.inj e2
    rw [dotN_sub]
    omega
/-! ### a small combination of two polynomials -/
def sh (a : List Int) (t j : Nat) : Int := if j ≤ t then ci a (t - j) else 0
def cof (a b : List Int) (p t j : Nat) : Int := if j < p then sh a t j else sh b t (j - p)
theorem cast_isum : ∀ {l : List Int}, ((l.sum : Int) : Rat) = (l.map fun i : Int => (i : Rat)).sum
  | [] => rfl
  | x :: l => by
    rw [List.sum_cons, Rat.intCast_add, cast_isum]
    rfl
theorem cfi {c : List Int} {i : Nat} : cf (lft 1 c) i = (ci c i : Rat) := by
  rw [cf_lft]
  show (ci c i : Rat) / 1 = _
  grind
theorem dot_mulc {a : List Int} {v : Nat → Int} {p t : Nat} : ((dotN (sh a t) v p : Int) : Rat) = mulc (lft 1 ((List.range p).map v)) (cf (lft 1 a)) t := by
  rw [mulc_sum, lft_len, List.length_map, List.length_range]
  unfold dotN
  rw [cast_isum, List.map_map]
  congr 1
  refine List.map_congr_left fun j hj => ?_
  have hj := List.mem_range.mp hj
  show ((sh a t j * v j : Int) : Rat) = _
  unfold sh
  rw [cfi, cfi]
  have e : ci ((List.range p).map v) j = v j := by
    unfold ci
    rw [List.getElem?_map, List.getElem?_range hj]
    rfl
  split
  · rw [Rat.intCast_mul, e, Rat.mul_comm]
  · rw [Int.zero_mul]
    rfl
theorem dotN_split {a b : List Int} {v : Nat → Int} {p t : Nat} : ∀ q, dotN (cof a b p t) v (p + q) = dotN (sh a t) v p + dotN (sh b t) (fun j => v (p + j)) q
  | 0 => by
    have : dotN (sh b t) (fun j => v (p + j)) 0 = 0 := rfl
    rw [this, Nat.add_zero, Int.add_zero]
    unfold dotN
    congr 1
    refine List.map_congr_left fun j hj => ?_
    unfold cof
    rw [if_pos (List.mem_range.mp hj)]
  | q + 1 => by
    rw [← Nat.add_assoc, dotN_s, dotN_s, dotN_split q]
    unfold cof
    rw [if_neg (by omega), show p + q - p = q by omega]
    omega
theorem ev_combo {a b u v : List Int} {x : Rat} : pev (zipL (· + ·) (pmul (lft 1 u) (lft 1 a)) (pmul (lft 1 v) (lft 1 b))) x = pev (lft 1 u) x * pev (lft 1 a) x + pev (lft 1 v) x * pev (lft 1 b) x := by
  rw [pev_add, pev_pmul, pev_pmul]
theorem small_combo {a b : List Int} {h E N : Nat} (ba : ∀ i ∈ a, Bt h i) (bb : ∀ i ∈ b, Bt h i) (h1 : E < a.length) (h2 : E ≤ b.length) (hN : N = a.length + b.length - 2 * E) (hN2 : N ≤ 64) :
    ∃ u v w : List Int, u.length = b.length - E ∧ v.length = a.length - E ∧ ((∃ i, ci u i ≠ 0) ∨ ∃ i, ci v i ≠ 0) ∧ w.length = E ∧ (∀ x, pev (lft 1 w) x = pev (lft 1 u) x * pev (lft 1 a) x + pev (lft 1 v) x * pev (lft 1 b) x) ∧ (∀ i ∈ w, Bt (N * (h + 7)) i) ∧ (∀ i ∈ u, Bt (N * (h + 7)) i) ∧ ∀ i ∈ v, Bt (N * (h + 7)) i := by
  have shb : ∀ {c : List Int} {t j : Nat}, (∀ i ∈ c, Bt h i) → (sh c t j).natAbs ≤ 2 ^ h := fun {c t j} hb => by
    unfold sh
    split
    · exact Nat.le_of_lt (ci_bt hb)
    · exact Nat.zero_le _
  have cb : ∀ t j, (cof a b (b.length - E) t j).natAbs ≤ 2 ^ h := fun t j => by
    unfold cof
    split
    · exact shb ba
    · exact shb bb
  obtain ⟨v, ⟨j, hj, vj⟩, vQ, v0⟩ := siegel (N := N) (M := N - 1) (A := 2 ^ h) (Nat.pow_pos (by decide)) (by omega) (fun k => cof a b (b.length - E) (E + k)) fun k _ j _ => cb (E + k) j
  have eN : N = (b.length - E) + (a.length - E) := by omega
  have val : ∀ t, ((dotN (cof a b (b.length - E) t) v N : Int) : Rat) = cf (zipL (· + ·) (pmul (lft 1 ((List.range (b.length - E)).map v)) (lft 1 a)) (pmul (lft 1 ((List.range (a.length - E)).map fun j => v (b.length - E + j))) (lft 1 b))) t := fun t => by
    rw [cf_add, cf_pmul, cf_pmul, ← dot_mulc, ← dot_mulc, eN, dotN_split, Rat.intCast_add]
  have van : ∀ t, E ≤ t → dotN (cof a b (b.length - E) t) v N = 0 := fun t ht => by
    by_cases ht2 : t - E < N - 1
    · have := v0 (t - E) ht2
      rw [show E + (t - E) = t by omega] at this
      exact this
    · have z : ∀ j < N, cof a b (b.length - E) t j = 0 := fun j hj => by
        unfold cof
        split
        · unfold sh
          split
          · exact ci_ge (by omega)
          · rfl
        · unfold sh
          split
          · exact ci_ge (by omega)
          · rfl
      have := dotN_le (c := cof a b (b.length - E) t) (v := v) (A := 0) (Q := (2 * N * 2 ^ h) ^ (N - 1)) N (fun j hj => by rw [z j hj]; exact Nat.le_refl _) vQ
      rw [Nat.zero_mul, Nat.mul_zero] at this
      omega
  have vB : ∀ j < N, Bt (N * (h + 7)) (v j) := fun j hj => by
    refine Nat.lt_of_le_of_lt (vQ j hj) (Nat.lt_of_le_of_lt (Nat.pow_le_pow_left (show 2 * N * 2 ^ h ≤ 2 ^ (h + 7) by
      rw [Nat.pow_add, Nat.mul_comm]
      exact Nat.mul_le_mul_left _ (by omega)) (N - 1)) ?_)
    rw [← Nat.pow_mul]
    refine Nat.pow_lt_pow_right (by decide) ?_
    rw [Nat.mul_comm]
    exact Nat.mul_lt_mul_of_pos_right (by omega) (by omega)
  refine ⟨(List.range (b.length - E)).map v, (List.range (a.length - E)).map fun j => v (b.length - E + j), (List.range E).map fun t => dotN (cof a b (b.length - E) t) v N, by rw [List.length_map, List.length_range], by rw [List.length_map, List.length_range], ?_, by rw [List.length_map, List.length_range], fun x => ?_, fun i hi => ?_, fun i hi => ?_, fun i hi => ?_⟩
  · by_cases hp : j < b.length - E
    · refine .inl ⟨j, ?_⟩
      unfold ci
      rw [List.getElem?_map, List.getElem?_range hp]
      exact vj
    · refine .inr ⟨j - (b.length - E), ?_⟩
      unfold ci
      rw [List.getElem?_map, List.getElem?_range (by omega)]
      show v (b.length - E + (j - (b.length - E))) ≠ 0
      rw [show b.length - E + (j - (b.length - E)) = j by omega]
      exact vj
  · rw [← ev_combo]
    refine pev_congr fun t => ?_
    rw [← val t, cfi]
    congr 1
    by_cases ht : t < E
    · unfold ci
      rw [List.getElem?_map, List.getElem?_range ht]
      rfl
    · rw [van t (by omega), ci_ge (by rw [List.length_map, List.length_range]; omega)]
  · obtain ⟨t, _, rfl⟩ := List.mem_map.mp hi
    have := dotN_le N (fun j _ => cb t j) vQ
    have N0 : 0 < N := by omega
    have e1 : N * (2 ^ h * (2 * N * 2 ^ h) ^ (N - 1)) < (2 * N * 2 ^ h) ^ N := by
      have e2 : (2 * N * 2 ^ h) ^ N = (2 * N * 2 ^ h) ^ (N - 1) * (2 * N * 2 ^ h) := by
        rw [← Nat.pow_succ]
        congr 1
        omega
      rw [e2]
      have p : 0 < (2 * N * 2 ^ h) ^ (N - 1) := Nat.pow_pos (Nat.mul_pos (by omega) (Nat.pow_pos (by decide)))
      have p2 : 0 < N * 2 ^ h := Nat.mul_pos N0 (Nat.pow_pos (by decide))
      rw [← Nat.mul_assoc, Nat.mul_comm]
      refine Nat.mul_lt_mul_of_pos_left ?_ p
      rw [Nat.mul_assoc]
      omega
    have e3 : (2 * N * 2 ^ h) ^ N ≤ 2 ^ (N * (h + 7)) := by
      rw [Nat.mul_comm N, Nat.pow_mul]
      refine Nat.pow_le_pow_left ?_ N
      rw [Nat.pow_add, Nat.mul_comm]
      exact Nat.mul_le_mul_left _ (by omega)
    exact Nat.lt_of_le_of_lt this (Nat.lt_of_lt_of_le e1 e3)
  · obtain ⟨j, hj, rfl⟩ := List.mem_map.mp hi
    exact vB _ (by have := List.mem_range.mp hj; omega)
  · obtain ⟨j, hj, rfl⟩ := List.mem_map.mp hi
    exact vB _ (by have := List.mem_range.mp hj; omega)
end Ml
set_option Elab.async false
set_option linter.all false
set_option maxRecDepth 100000
set_option maxHeartbeats 4000000
set_option exponentiation.threshold 20000
namespace Ml
open PySem L2 Inn Uv Sl
/-! ### rests one behind another -/
abbrev Q1 (a : List Int) : List Rat := lft 1 a
abbrev TrI (a : List Int) : Prop := Trimd (· == 0) a
theorem tr1 {a : List Int} (h : TrI a) : TrQ (Q1 a) := trimd_lft (by decide) h
theorem len1 {a : List Int} : (Q1 a).length = a.length := lft_len
/-- d divides p -/
def Dd (d p : List Rat) : Prop := ∃ u : List Rat, ∀ x, pev p x = pev d x * pev u x
/-- what combinations of a and b that have few places come to, told by f and g -/
def Cmb (a b f g : List Int) : Prop := ∀ E : Nat, E < max f.length g.length → ∀ u v w : List Rat, TrQ u → TrQ v → u.length ≤ b.length - E → v.length ≤ a.length - E → (∀ i, E ≤ i → cf w i = 0) →
  (∀ x, pev w x = pev u x * pev (Q1 a) x + pev v x * pev (Q1 b) x) → ∃ u' v' : List Rat, TrQ u' ∧ TrQ v' ∧ u'.length ≤ g.length - E ∧ v'.length ≤ f.length - E ∧ (∀ x, pev w x = pev u' x * pev (Q1 f) x + pev v' x * pev (Q1 g) x) ∧ (u' = [] → v' = [] → u = [] ∧ v = [])
theorem Cmb.base (a b : List Int) : Cmb a b a b := fun E _ u v w tu tv lu lv hw h => ⟨u, v, tu, tv, lu, lv, h, fun h1 h2 => ⟨h1, h2⟩⟩
theorem psm_nil {c : Rat} {p : List Rat} (hc : c ≠ 0) (h : psm c p = []) (tp : TrQ p) : p = [] := by
  refine poly_ext tp (fun a e => nomatch e) fun k => ?_
  have e : cf (psm c p) k = 0 := by rw [h, cf_nil]
  rw [cf_psm] at e
  rw [cf_nil]
  exact (Rat.mul_eq_zero.mp e).resolve_left hc
theorem psm_le1 {c : Rat} {p : List Rat} : (psm c p).length ≤ p.length := Nat.le_trans trimZ_le (by rw [List.length_map]; exact Nat.le_refl _)
theorem Cmb.step {a b f g r : List Int} {q : List Rat} {κ ρ : Rat} (h : Cmb a b f g) (hκ : κ ≠ 0) (hρ : ρ ≠ 0) (tg : TrI g) (ng : g ≠ []) (tr : TrI r) (lr : r.length < g.length) (e : ∀ x, κ * pev (Q1 f) x = pev q x * pev (Q1 g) x + ρ * pev (Q1 r) x) : Cmb a b g r := by
  intro E hE u v w tu tv lu lv hw hx
  have hE2 : E < g.length := by omega
  obtain ⟨u', v', tu', tv', lu', lv', e', nz⟩ := h E (by omega) u v w tu tv lu lv hw hx
  -- the new ones
  let U := psm (1 / κ) (padd (ptim u' q) (psm κ v'))
  let V := psm (ρ / κ) u'
  have eU : ∀ x, κ * pev U x = pev u' x * pev q x + κ * pev v' x := fun x => by
    show κ * pev (psm (1 / κ) (padd (ptim u' q) (psm κ v'))) x = _
    rw [pev_psm, pev_padd, pev_tim, pev_psm]
    grind
  have eV : ∀ x, κ * pev V x = ρ * pev u' x := fun x => by
    show κ * pev (psm (ρ / κ) u') x = _
    rw [pev_psm]
    grind
  have eW : ∀ x, pev w x = pev U x * pev (Q1 g) x + pev V x * pev (Q1 r) x := fun x => by
    have h1 := e' x
    have h2 := e x
    have h3 := eU x
    have h4 := eV x
    have : κ * pev w x = κ * (pev U x * pev (Q1 g) x + pev V x * pev (Q1 r) x) := by grind
    have := congrArg (fun z => κ⁻¹ * z) this
    rw [← Rat.mul_assoc, ← Rat.mul_assoc, Rat.inv_mul_cancel _ hκ, Rat.one_mul, Rat.one_mul] at this
    exact this
  have lV : V.length ≤ g.length - E := Nat.le_trans psm_le1 lu'
  have tU : TrQ U := trQ_trim
  have tV : TrQ V := trQ_trim
  refine ⟨U, V, tU, tV, ?_, lV, eW, fun hU hV => ?_⟩
  · refine Decidable.byContradiction fun no => ?_
    have nU : U ≠ [] := fun z => by rw [z] at no; exact no (Nat.zero_le _)
    have pU := List.length_pos_iff.mpr nU
    have nG : Q1 g ≠ [] := fun z => ng (List.map_eq_nil_iff.mp z)
    have lp := tim_len tU (tr1 tg) nU nG
    rw [len1] at lp
    have ne : ptim U (Q1 g) ≠ [] := fun z => by rw [z] at lp; simp only [List.length_nil] at lp; omega
    have top := TrQ.last (p := ptim U (Q1 g)) trQ_trim ne
    rw [lp] at top
    -- the product is what is left of w
    have ec : ∀ x, pev (ptim U (Q1 g)) x = pev (psub w (ptim V (Q1 r))) x := fun x => by
      rw [pev_tim, pev_psub, pev_tim]
      have := eW x
      grind
    rw [cf_of_pev ec, cf_psub] at top
    have z1 : cf w (U.length + g.length - 1 - 1) = 0 := hw _ (by omega)
    have z2 : cf (ptim V (Q1 r)) (U.length + g.length - 1 - 1) = 0 := by
      by_cases nV : V = []
      · rw [nV, cf_ptim]
        rfl
      · by_cases nR : Q1 r = []
        · rw [nR, cf_ptim]
          exact mulc_nil fun k => cf_nil
        · have lq := tim_len tV (tr1 tr) nV nR
          rw [len1] at lq
          have pr : 0 < r.length := by rw [← len1]; exact List.length_pos_iff.mpr nR
          exact cf_ge (by omega)
    rw [z1, z2] at top
    exact top (Rat.sub_self)
  · have hu' : u' = [] := psm_nil (c := ρ / κ) (fun z => by
      have : ρ / κ * κ = 0 := by rw [z, Rat.zero_mul]
      rw [Rat.div_def, Rat.mul_assoc, Rat.inv_mul_cancel _ hκ, Rat.mul_one] at this
      exact hρ this) hV tu'
    refine nz hu' (poly_ext tv' (fun a e => nomatch e) fun k => ?_)
    have e0 : ∀ x, pev v' x = pev ([] : List Rat) x := fun x => by
      have h1 := eU x
      rw [hU, hu'] at h1
      have h2 : κ * (0 : Rat) = 0 * pev q x + κ * pev v' x := h1
      show pev v' x = 0
      have h3 : κ * pev v' x = 0 := by grind
      exact (Rat.mul_eq_zero.mp h3).resolve_left hκ
    exact cf_of_pev e0 k
theorem dvd_contF {d : Nat} : ∀ {a : List Int} {g : Nat}, d ∣ g → (∀ x ∈ a, (d : Int) ∣ x) → d ∣ contF g a
  | [], _, h, _ => h
  | x :: a, g, h, hx => dvd_contF (g := Int.gcd (g : Int) x) (by
      refine Nat.dvd_gcd (by rw [Int.natAbs_natCast]; exact h) ?_
      have := Int.natAbs_dvd_natAbs.mpr (hx x List.mem_cons_self)
      rwa [Int.natAbs_natCast] at this) fun y hy => hx y (List.mem_cons_of_mem _ hy)
theorem dvd_cont {d : Nat} {a : List Int} (h : ∀ x ∈ a, (d : Int) ∣ x) : d ∣ cont a := dvd_contF (Nat.dvd_zero d) h
theorem mem_of_ci {a : List Int} {i : Nat} (h : ci a i ≠ 0) : ci a i ∈ a := by
  by_cases hi : i < a.length
  · exact List.mem_of_getElem? (ci_lt hi)
  · exact absurd (ci_ge (by omega)) h
/-- a bare one that w is a number times is no greater -/
theorem prim_le {g w : List Int} {c : Rat} (hc : c ≠ 0) (cg : cont g = 1) (h : ∀ i, (ci w i : Rat) = c * (ci g i : Rat)) (i : Nat) : (ci g i).natAbs ≤ (ci w i).natAbs := by
  have key : ∀ i, c.num * ci g i = ci w i * c.den := fun i => by
    have h1 := h i
    have d0 : (c.den : Rat) ≠ 0 := by exact_mod_cast c.den_nz
    have h2 : (c.num : Rat) * (ci g i : Rat) = (ci w i : Rat) * (c.den : Rat) := by
      rw [h1]
      have h3 : c * (c.den : Rat) = c.num := by
        have e := q_of c
        generalize (c.num : Rat) = n at *
        generalize (c.den : Rat) = d at *
        rw [e]
        grind
      rw [Rat.mul_assoc, Rat.mul_comm (ci g i : Rat), ← Rat.mul_assoc, h3]
    exact_mod_cast h2
  have d1 : c.den ∣ cont (g.map fun x => c.num * x) := dvd_cont fun x hx => by
    obtain ⟨y, hy, rfl⟩ := List.mem_map.mp hx
    obtain ⟨i, _, rfl⟩ := mem_ci hy
    exact ⟨ci w i, by rw [key i, Int.mul_comm]⟩
  rw [cont_mul, cg, Nat.mul_one] at d1
  have d2 : c.den = 1 := by
    have := c.reduced
    have h3 : c.den ∣ Nat.gcd c.num.natAbs c.den := Nat.dvd_gcd d1 (Nat.dvd_refl _)
    rw [this] at h3
    exact Nat.eq_one_of_dvd_one h3
  have k := key i
  rw [d2] at k
  have k : c.num * ci g i = ci w i := by rw [k]; show _ * (1 : Int) = _; rw [Int.mul_one]
  rw [← k, Int.natAbs_mul]
  refine Nat.le_mul_of_pos_left _ (Int.natAbs_pos.mpr fun z => hc ?_)
  rw [q_of c, z, Rat.intCast_zero]
  grind
theorem prs_bt {a b f g : List Int} {h N : Nat} (hc : Cmb a b f g) (ba : ∀ i ∈ a, Bt h i) (bb : ∀ i ∈ b, Bt h i) (l1 : g.length < f.length) (l2 : f.length ≤ a.length) (l3 : f.length ≤ b.length) (cg : cont g = 1) (hN : N = a.length + b.length + 2 - 2 * f.length) (hN2 : N ≤ 64) : ∀ i ∈ g, Bt (N * (h + 7)) i := by
  obtain ⟨u, v, w, lu, lv, nz, lw, ew, bw, _, _⟩ := small_combo (E := f.length - 1) (N := N) ba bb (by omega) (by omega) (by omega) hN2
  obtain ⟨u', v', tu', tv', lu', lv', e', nn⟩ := hc (f.length - 1) (by omega) (trimQ (Q1 u)) (trimQ (Q1 v)) (Q1 w) trQ_trim trQ_trim (Nat.le_trans trimZ_le (by rw [len1]; omega)) (Nat.le_trans trimZ_le (by rw [len1]; omega)) (fun i hi => cf_ge (by rw [len1]; omega)) fun x => by rw [pev_trim, pev_trim]; exact ew x
  have u0 : u' = [] := List.length_eq_zero_iff.mp (by omega)
  have zz : ∀ {z : List Int}, trimQ (Q1 z) = [] → ∀ i, ci z i = 0 := fun {z} hz i => by
    have := cf_trimZ (p := Q1 z) (k := i)
    rw [hz, cf_nil, cfi] at this
    exact_mod_cast this.symm
  have v0 : v' ≠ [] := fun z => by
    obtain ⟨h1, h2⟩ := nn u0 z
    rcases nz with ⟨i, hi⟩ | ⟨i, hi⟩
    · exact hi (zz h1 i)
    · exact hi (zz h2 i)
  obtain ⟨c, rfl⟩ : ∃ c, v' = [c] := by
    match v', v0, lv' with
    | [c], _, _ => exact ⟨c, rfl⟩
    | [], h, _ => exact absurd rfl h
    | _ :: _ :: _, _, h => simp only [List.length_cons] at h; omega
  have c0 : c ≠ 0 := TrQ.last tv' v0
  have ec : ∀ x, pev (Q1 w) x = pev (psm c (Q1 g)) x := fun x => by
    rw [e' x, u0, pev_psm, pev_one]
    show (0 : Rat) * _ + _ = _
    grind
  have key : ∀ i, (ci w i : Rat) = c * (ci g i : Rat) := fun i => by
    rw [← cfi, cf_of_pev ec i, cf_psm, cfi]
  intro i hi
  obtain ⟨j, _, rfl⟩ := mem_ci hi
  exact (ci_bt bw : Bt (N * (h + 7)) (ci w j)).le (prim_le c0 cg key j)
/-! ### what divides both -/
theorem dd_step {f g r d q : List Rat} {κ ρ : Rat} (hκ : κ ≠ 0) (hρ : ρ ≠ 0) (e : ∀ x, κ * pev f x = pev q x * pev g x + ρ * pev r x) : (Dd d f ∧ Dd d g) ↔ (Dd d g ∧ Dd d r) := by
  constructor
  · rintro ⟨⟨u, hu⟩, v, hv⟩
    refine ⟨⟨v, hv⟩, psub (psm (κ / ρ) u) (psm (1 / ρ) (ptim q v)), fun x => ?_⟩
    have h1 := e x
    rw [hu, hv] at h1
    rw [pev_psub, pev_psm, pev_psm, pev_tim]
    have h2 : ρ * pev r x = κ * (pev d x * pev u x) - pev q x * (pev d x * pev v x) := by grind
    have : pev r x = (1 / ρ) * (ρ * pev r x) := by grind
    rw [this, h2]
    grind
  · rintro ⟨⟨v, hv⟩, u, hu⟩
    refine ⟨⟨padd (psm (ρ / κ) u) (psm (1 / κ) (ptim q v)), fun x => ?_⟩, v, hv⟩
    have h1 := e x
    rw [hu, hv] at h1
    rw [pev_padd, pev_psm, pev_psm, pev_tim]
    have : pev f x = (1 / κ) * (κ * pev f x) := by grind
    rw [this, h1]
    grind
end Ml
set_option Elab.async false
set_option linter.all false
set_option maxRecDepth 100000
set_option maxHeartbeats 4000000
set_option exponentiation.threshold 20000
namespace Ml
open PySem L2 Inn Uv Sl
/-! ### a great prime -/
/-- p as a prime -/
def Prm (p : Int) : Prop := ∀ x y : Int, p ∣ x * y → p ∣ x ∨ p ∣ y
theorem rcan {c x y : Rat} (hc : c ≠ 0) (h : c * x = c * y) : x = y := by
  have := congrArg (c⁻¹ * ·) h
  simp only [← Rat.mul_assoc, Rat.inv_mul_cancel _ hc, Rat.one_mul] at this
  exact this
/-! ### whole polynomials by worths -/
theorem pI_add {a b : List Int} {x : Rat} : pev (Q1 (zipL (· + ·) a b)) x = pev (Q1 a) x + pev (Q1 b) x := by
  show pev (lft 1 _) x = _
  rw [lft_add, pev_add]
theorem q1_smul {c : Int} {a : List Int} : Q1 (a.map fun x => c * x) = (Q1 a).map ((c : Rat) * ·) := by
  show List.map _ (List.map _ _) = List.map _ (List.map _ _)
  rw [List.map_map, List.map_map]
  refine List.map_congr_left fun i _ => ?_
  show ((c * i : Int) : Rat) / 1 = (c : Rat) * ((i : Rat) / 1)
  rw [Rat.intCast_mul]
  grind
theorem pI_smul {c : Int} {a : List Int} {x : Rat} : pev (Q1 (a.map fun x => c * x)) x = (c : Rat) * pev (Q1 a) x := by rw [q1_smul, pev_smul]
theorem pI_mul {a b : List Int} {x : Rat} : pev (Q1 (mulL a b)) x = pev (Q1 a) x * pev (Q1 b) x := pev_mulL
def shI (s : Nat) (l : List Int) : List Int := List.replicate s 0 ++ l
theorem q1_sh {s : Nat} {l : List Int} : Q1 (shI s l) = shq s (Q1 l) := by
  unfold shI shq Q1 lft
  rw [List.map_append, List.map_replicate]
  congr 2
  decide +kernel
theorem pI_sh {s : Nat} {l : List Int} {x : Rat} : pev (Q1 (shI s l)) x = x ^ s * pev (Q1 l) x := by rw [q1_sh, pev_shq]
theorem pI_ext {a b : List Int} (h : ∀ x, pev (Q1 a) x = pev (Q1 b) x) (i : Nat) : ci a i = ci b i := by
  have := cf_of_pev h i
  rw [cfi, cfi] at this
  exact_mod_cast this
theorem ci_smul {c : Int} {a : List Int} {i : Nat} : ci (a.map fun x => c * x) i = c * ci a i := by
  by_cases h : i < a.length
  · exact map_ci h
  · rw [ci_ge (by rw [List.length_map]; omega), ci_ge (by omega), Int.mul_zero]
theorem ci_zip {a b : List Int} {i : Nat} : ci (zipL (· + ·) a b) i = ci a i + ci b i := by
  have : cf (Q1 (zipL (· + ·) a b)) i = cf (Q1 a) i + cf (Q1 b) i := by
    show cf (lft 1 _) i = _
    rw [lft_add, cf_add]
  rw [cfi, cfi, cfi] at this
  exact_mod_cast this
/-! ### nothing in common modulo p, nothing in common -/
end Ml
set_option Elab.async false
set_option linter.all false
set_option maxRecDepth 100000
set_option maxHeartbeats 4000000
set_option exponentiation.threshold 20000
namespace Ml
open PySem L2 Inn Uv Sl
/-! ### reckoning modulo a prime -/
structure Pm (p : Int) : Prop where
  p1 : 1 < p
  b : p < 2 ^ 31
  prm : Prm p
  g : ∀ a : Int, ¬ p ∣ a → Int.gcd p a = 1
section
variable {p : Int}
theorem Pm.fm (h : Pm p) {i : Int} : i.fmod p = i % p := Int.fmod_eq_emod_of_nonneg i (by have := h.p1; omega)
theorem Pm.ne (h : Pm p) : p ≠ 0 := by have := h.p1; omega
theorem Pm.lo (h : Pm p) (i : Int) : 0 ≤ i % p := Int.emod_nonneg i h.ne
theorem Pm.hi (h : Pm p) (i : Int) : i % p < p := Int.emod_lt_of_pos i (by have := h.p1; omega)
theorem Pm.sub (h : Pm p) (i : Int) : p ∣ i - i % p := ⟨i / p, by have := Int.mul_ediv_add_emod i p; omega⟩
/-! lists of rests -/
def Md (p : Int) (a : List Int) : Prop := ∀ i ∈ a, 0 ≤ i ∧ i < p
theorem Md.bt (hp : Pm p) {a : List Int} (h : Md p a) : ∀ i ∈ a, Bt 31 i := fun i hi => by
  have := h i hi
  have := hp.b
  show i.natAbs < 2 ^ 31
  omega
theorem cong_ex {z : Nat → Int} {n : Nat} (h : ∀ i, p ∣ z i) (hn : ∀ i, n ≤ i → z i = 0) : ∃ H : List Int, ∀ i, p * ci H i = z i := by
  refine ⟨(List.range n).map fun i => z i / p, fun i => ?_⟩
  by_cases hi : i < n
  · have : ci ((List.range n).map fun i => z i / p) i = z i / p := by
      unfold ci
      rw [List.getElem?_map, List.getElem?_range hi]
      rfl
    rw [this]
    exact Int.mul_ediv_cancel' (h i)
  · rw [ci_ge (by rw [List.length_map, List.length_range]; omega), hn i (by omega), Int.mul_zero]
def nxm (p lead : Int) (o : List Int) (s : Nat) (r : List Int) : List Int := r.take s ++ (((r.take (r.length - 1)).drop s).zip o).map fun q => (q.1 - lead * q.2) % p
theorem nxm_len {lead : Int} {o r : List Int} {s : Nat} (h : r.length = s + o.length) : (nxm p lead o s r).length = s + (o.length - 1) := by
  unfold nxm
  rw [List.length_append, List.length_map, List.length_zip, List.length_drop, List.length_take, List.length_take]
  omega
theorem nxm_ci {lead : Int} {o r : List Int} {s : Nat} (hp : Pm p) (hm : o ≠ []) (h : r.length = s + o.length) (hl : p ∣ hd r - lead * hd o) (i : Nat) : p ∣ (ci r i - lead * shf o s i) - ci (nxm p lead o s r) i := by
  have lb : 0 < o.length := List.length_pos_iff.mpr hm
  by_cases h1 : i < s
  · have : ci (nxm p lead o s r) i = ci r i := by
      unfold nxm
      rw [ci_app, List.length_take, if_pos (by omega), ci_take h1]
    rw [this]
    unfold shf
    rw [if_neg (by omega)]
    exact ⟨0, by simp⟩
  · by_cases h2 : i < s + (o.length - 1)
    · have : ci (nxm p lead o s r) i = (ci r i - lead * ci o (i - s)) % p := by
        unfold nxm
        rw [ci_app, List.length_take, if_neg (by omega), show min s r.length = s by omega]
        have g1 : (((r.take (r.length - 1)).drop s).zip o)[i - s]? = some (ci r i, ci o (i - s)) := by
          rw [List.getElem?_zip_eq_some]
          refine ⟨?_, ci_lt (by omega)⟩
          rw [List.getElem?_drop, List.getElem?_take_of_lt (by omega), show s + (i - s) = i by omega]
          exact ci_lt (by omega)
        show ((List.map _ _)[i - s]?).getD 0 = _
        rw [List.getElem?_map, g1]
        rfl
      rw [this]
      unfold shf
      rw [if_pos (by omega)]
      exact hp.sub _
    · rw [ci_ge (a := nxm p lead o s r) (by rw [nxm_len h]; omega), Int.sub_zero]
      by_cases h3 : i = s + (o.length - 1)
      · subst h3
        unfold shf
        rw [if_pos (by omega), show s + (o.length - 1) - s = o.length - 1 by omega]
        have e1 : ci r (s + (o.length - 1)) = hd r := by
          unfold hd
          rw [h, show s + o.length - 1 = s + (o.length - 1) by omega]
        rw [e1]
        exact hl
      · unfold shf
        rw [if_pos (by omega), ci_ge (a := r) (by omega), ci_ge (a := o) (by omega)]
        exact ⟨0, by simp⟩
/-- what is kept: r0 is o times something, and r, modulo p -/
def Lo (p : Int) (r0 o r : List Int) : Prop := ∃ Q H : List Int, ∀ x, pev (Q1 r0) x = pev (Q1 o) x * pev (Q1 Q) x + pev (Q1 r) x + (p : Rat) * pev (Q1 H) x
theorem Lo.step {r0 o r : List Int} {s : Nat} {lead : Int} (hp : Pm p) (hm : o ≠ []) (h : r.length = s + o.length) (hl : p ∣ hd r - lead * hd o) (k : Lo p r0 o r) : Lo p r0 o (nxm p lead o s r) := by
  obtain ⟨Q, H, e⟩ := k
  obtain ⟨G, hG⟩ := cong_ex (n := r.length + (s + o.length)) (nxm_ci hp hm h hl) fun i hi => by
    rw [ci_ge (a := r) (by omega), ci_ge (a := nxm p lead o s r) (by rw [nxm_len h]; omega)]
    unfold shf
    split
    · rw [ci_ge (by omega)]
      simp
    · simp
  refine ⟨zipL (· + ·) Q (shI s [lead]), zipL (· + ·) H G, fun x => ?_⟩
  have st : pev (Q1 r) x = pev (Q1 (nxm p lead o s r)) x + (lead : Rat) * (x ^ s * pev (Q1 o) x) + (p : Rat) * pev (Q1 G) x := by
    have e1 : pev (Q1 r) x = pev (Q1 (zipL (· + ·) (zipL (· + ·) (nxm p lead o s r) ((shI s o).map fun y => lead * y)) (G.map fun y => p * y))) x := pev_congr fun i => by
      rw [cfi, cfi, ci_zip, ci_zip, ci_smul, ci_smul, hG]
      congr 1
      have : ci (shI s o) i = shf o s i := by
        unfold shI shf
        rw [ci_app, List.length_replicate]
        by_cases hi : i < s
        · rw [if_pos hi, if_neg (by omega)]
          unfold ci
          rw [List.getElem?_replicate]
          split <;> rfl
        · rw [if_neg hi, if_pos (by omega)]
      rw [this]
      omega
    rw [e1, pI_add, pI_add, pI_smul, pI_smul, pI_sh]
  rw [e x, st, pI_add, pI_add, pI_sh]
  have : pev (Q1 [lead]) x = (lead : Rat) := by
    show ((lead : Int) : Rat) / 1 + x * 0 = _
    grind
  rw [this]
  grind
/-! common parts modulo p -/
/-- f is a combination of a and b modulo p -/
def Bz (p : Int) (a b f : List Int) : Prop := ∃ s t h : List Int, ∀ x, pev (Q1 s) x * pev (Q1 a) x + pev (Q1 t) x * pev (Q1 b) x = pev (Q1 f) x + (p : Rat) * pev (Q1 h) x
theorem Bz.step {a b f g r : List Int} (h1 : Bz p a b f) (h2 : Bz p a b g) (hl : Lo p f g r) : Bz p a b r := by
  obtain ⟨s, t, h, e⟩ := h1
  obtain ⟨s', t', h', e'⟩ := h2
  obtain ⟨Q, H, eQ⟩ := hl
  refine ⟨zipL (· + ·) s ((mulL Q s').map fun y => (-1) * y), zipL (· + ·) t ((mulL Q t').map fun y => (-1) * y), zipL (· + ·) (zipL (· + ·) h H) ((mulL Q h').map fun y => (-1) * y), fun x => ?_⟩
  have := e x
  have := e' x
  have := eQ x
  rw [pI_add, pI_add, pI_add, pI_add, pI_smul, pI_smul, pI_smul, pI_mul, pI_mul, pI_mul]
  have : ((-1 : Int) : Rat) = -1 := rfl
  rw [this]
  grind
end
end Ml
set_option Elab.async false
set_option linter.all false
set_option maxRecDepth 100000
set_option maxHeartbeats 200000
set_option exponentiation.threshold 20000
namespace Ml
open PySem L2 Inn Uv Sl
/-! ### the common part -/
theorem Dv.fin {b : List Int} {B K : Nat} {F : Int × List Int × List Int} (hb : hd b ≠ 0) (hm : b ≠ []) (bb : ∀ x ∈ b, Bt B x) : ∀ {k : Nat} {t : Int × List Int × List Int}, Dv b B K F k t → Dv b B K F 0 F
  | 0, t, h => by
    have e : t = F := h.run
    rw [e] at h
    exact h
  | k + 1, t, h => Dv.fin hb hm bb (h.step hb hm bb)
theorem isE' {a : List Int} (h : a ≠ []) : (a.map D.int).isEmpty = false := by cases a with | nil => exact absurd rfl h | cons _ _ => rfl
theorem hd_ne {a : List Int} (t : TrI a) (n : a ≠ []) : hd a ≠ 0 := by
  have := t (hd a) (by rw [List.getLast?_eq_getElem?]; exact ci_lt (by have := List.length_pos_iff.mpr n; omega))
  simpa using this
/-- f is the common part of a and b -/
structure Gc (W : Nat) (a b f : List Int) : Prop where
  t : TrI f
  d : ∀ d, (Dd d (Q1 a) ∧ Dd d (Q1 b)) ↔ Dd d (Q1 f)
  c : f ≠ [] → cont f = 1 ∧ 0 < hd f
  l : f.length ≤ max a.length b.length
  n : f = [] → a = [] ∧ b = []
  b : ∀ i ∈ f, Bt W i
/-- a bare one -/
structure Br (h : Nat) (a : List Int) : Prop where
  t : TrI a
  c : a ≠ [] → cont a = 1 ∧ 0 < hd a
  b : ∀ i ∈ a, Bt h i
theorem bareL_sc (a : List Int) : ∃ g : Int, g ≠ 0 ∧ trim a = (bareL a).map fun x => g * x := by
  by_cases h : trim a = []
  · exact ⟨1, by decide, by rw [h, bare_nil h]; rfl⟩
  · exact (bare_spec h).ex
theorem bareL_tc (a : List Int) : TrI (bareL a) ∧ (bareL a ≠ [] → cont (bareL a) = 1 ∧ 0 < hd (bareL a)) := by
  by_cases z : trim a = []
  · rw [bare_nil z]
    exact ⟨fun _ h => (by cases h), fun h => absurd rfl h⟩
  · have s := bare_spec z
    refine ⟨fun x hx => ?_, fun _ => ⟨s.c, s.head⟩⟩
    have h0 := s.head
    rw [List.getLast?_eq_getElem?] at hx
    have : ci (bareL a) ((bareL a).length - 1) = x := by unfold ci; rw [hx]; rfl
    rw [this] at h0
    show (x == 0) = false
    exact beq_eq_false_iff_ne.mpr (by omega)
theorem bareL_br {a : List Int} {h : Nat} (hb : ∀ i ∈ bareL a, Bt h i) : Br h (bareL a) := ⟨(bareL_tc a).1, (bareL_tc a).2, hb⟩
theorem bareL_ev (a : List Int) : ∃ ρ : Rat, ρ ≠ 0 ∧ ∀ x, pev (Q1 a) x = ρ * pev (Q1 (bareL a)) x := by
  obtain ⟨g, g0, e⟩ := bareL_sc a
  refine ⟨(g : Rat), by exact_mod_cast g0, fun x => ?_⟩
  rw [← pI_smul, ← e, pev_trimI]
def beta (S l h : Nat) : Nat := (S + 2 - 2 * l) * (h + 7) + h
/-- what the rounds keep -/
structure Rnds (a b : List Int) (h : Nat) (f g : List Int) : Prop where
  cm : Cmb a b f g
  d : ∀ d, (Dd d (Q1 a) ∧ Dd d (Q1 b)) ↔ (Dd d (Q1 f) ∧ Dd d (Q1 g))
  bf : Br (beta (a.length + b.length) f.length h) f
  bg : Br (beta (a.length + b.length) f.length h) g
  nf : f ≠ []
  l1 : g.length < f.length
  l2 : f.length ≤ max a.length b.length
  l3 : g.length ≤ a.length ∧ g.length ≤ b.length
theorem Br.mono {h k : Nat} {a : List Int} (x : Br h a) (hk : h ≤ k) : Br k a := ⟨x.t, x.c, fun i hi => (x.b i hi).mono hk⟩
/-- the next round -/
theorem Rnds.nextG {a b f g y : List Int} {h : Nat} {κ : Rat} {q : List Rat} (cm : Cmb a b f g) (d : ∀ d, (Dd d (Q1 a) ∧ Dd d (Q1 b)) ↔ (Dd d (Q1 f) ∧ Dd d (Q1 g))) (ba : Br h a) (bb : Br h b) (bg : Br (beta (a.length + b.length) g.length h) g) (ng : g ≠ []) (lg : g.length ≤ max a.length b.length) (hS : a.length + b.length ≤ 60) (special : (g.length ≤ a.length ∧ g.length ≤ b.length) ∨ (f = a ∧ g = b)) (κ0 : κ ≠ 0) (h2 : ∀ i, g.length - 1 ≤ i → ci y i = 0) (h3 : ∀ x, κ * pev (Q1 f) x = pev q x * pev (Q1 g) x + pev (Q1 y) x) (triv : f.length < g.length → trim y = trim f) :
    Rnds a b h g (bareL (trim y)) := by
  have lg0 := List.length_pos_iff.mpr ng
  have lr : (bareL (trim y)).length < g.length := by
    rw [bare_len]
    have tt : trim (trim y) = trim y := trimZ_of trimZ_trimd
    rw [tt]
    refine Nat.lt_of_not_le fun hle => ?_
    have nt : trim y ≠ [] := fun z => by rw [z] at hle; have : g.length ≤ 0 := hle; omega
    have lt := List.length_pos_iff.mpr nt
    have top := hd_ne (a := trim y) trimZ_trimd nt
    apply top
    unfold hd
    have e : ∀ i, ci (trim y) i = ci y i := fun i => pI_ext (fun x => pev_trimI) i
    rw [e]
    exact h2 _ (by omega)
  obtain ⟨ρ, ρ0, er⟩ := bareL_ev (trim y)
  have id : ∀ x, κ * pev (Q1 f) x = pev q x * pev (Q1 g) x + ρ * pev (Q1 (bareL (trim y))) x := fun x => by
    rw [← er, pev_trimI]
    exact h3 x
  obtain ⟨tr, cr⟩ := bareL_tc (trim y)
  have cm' : Cmb a b g (bareL (trim y)) := cm.step κ0 ρ0 bg.t ng tr lr id
  have bits : ∀ i ∈ bareL (trim y), Bt (beta (a.length + b.length) g.length h) i := by
    have direct : f = a → g = b → a.length < b.length → ∀ i ∈ bareL (trim y), Bt (beta (a.length + b.length) g.length h) i := fun e1 e2 hl => by
      have tt := triv (by rw [e1, e2]; omega)
      rw [tt, e1]
      exact fun i hi => (bare_bt (trim_bt ba.b) i hi).mono (by unfold beta; omega)
    by_cases hl : g.length ≤ a.length ∧ g.length ≤ b.length
    · by_cases z : bareL (trim y) = []
      · rw [z]
        exact fun _ h => nomatch h
      · exact fun i hi => (prs_bt cm' ba.b bb.b lr hl.1 hl.2 (cr z).1 rfl (by omega) i hi).mono (by unfold beta; omega)
    · rcases special with h0 | ⟨e1, e2⟩
      · exact absurd h0 hl
      · exact direct e1 e2 (by
          rw [e2] at hl
          omega)
  have small : g.length ≤ a.length ∧ g.length ≤ b.length ∨ a.length < g.length ∧ trim y = trim a := by
    rcases special with h0 | ⟨e1, e2⟩
    · exact .inl h0
    · by_cases hl : b.length ≤ a.length
      · exact .inl ⟨by rw [e2]; exact hl, by rw [e2]; exact Nat.le_refl _⟩
      · refine .inr ⟨by rw [e2]; omega, ?_⟩
        have tt := triv (by rw [e1, e2]; omega)
        rw [tt, e1]
  refine ⟨cm', fun d' => ?_, bg, ⟨tr, cr, bits⟩, ng, lr, lg, ?_⟩
  · rw [d d']
    exact dd_step κ0 ρ0 id
  · rcases small with hl | ⟨hl, he⟩
    · omega
    · have : (bareL (trim y)).length ≤ a.length := by
        rw [bare_len, he]
        exact Nat.le_trans trimZ_le trimZ_le
      rcases special with h0 | ⟨e1, e2⟩
      · omega
      · rw [e2] at hl
        omega
theorem Rnds.next {a b f g : List Int} {h : Nat} (cm : Cmb a b f g) (d : ∀ d, (Dd d (Q1 a) ∧ Dd d (Q1 b)) ↔ (Dd d (Q1 f) ∧ Dd d (Q1 g))) (ba : Br h a) (bb : Br h b) (bg : Br (beta (a.length + b.length) g.length h) g) (ng : g ≠ []) (lg : g.length ≤ max a.length b.length) (hS : a.length + b.length ≤ 60) (special : (g.length ≤ a.length ∧ g.length ≤ b.length) ∨ (f = a ∧ g = b)) :
    Rnds a b h g (bareL (trim (runD g (f.length + 1 - g.length) (1, [], f)).2.2)) := by
  have lg0 := List.length_pos_iff.mpr ng
  have hg0 : hd g ≠ 0 := by have := (bg.c ng).2; omega
  obtain ⟨h1, h2, h3⟩ := runD_sem hg0 (f.length + 1 - g.length) (1, [], f) f (fun h => by show f.length = _; omega) (fun i hi => ci_ge (by show f.length ≤ i; omega)) (show (1 : Int) ≠ 0 by decide) fun x => by
    show ((1 : Int) : Rat) * _ = _ * (0 : Rat) + _
    rw [show ((1 : Int) : Rat) = 1 from rfl]
    grind
  have triv : f.length + 1 - g.length = 0 → runD g (f.length + 1 - g.length) (1, [], f) = (1, [], f) := fun z => by rw [z]; rfl
  refine .nextG (κ := ((runD g (f.length + 1 - g.length) (1, [], f)).1 : Rat)) (q := Q1 (runD g (f.length + 1 - g.length) (1, [], f)).2.1) cm d ba bb bg ng lg hS special (by exact_mod_cast h1) h2 (fun x => ?_) fun hl => by rw [triv (by omega)]
  have := h3 x
  grind
end Ml
set_option Elab.async false
set_option linter.all false
set_option maxRecDepth 100000
set_option maxHeartbeats 400000
set_option exponentiation.threshold 20000
namespace Ml
open PySem L2 Inn Uv Sl
/-! ### lowest terms that are small -/
theorem m_low2 {a b : Int} {R : D → Prop} (hb : b ≠ 0) (hq : Ht 4490 (rq a b)) (h : R (encP (rq a b))) : s_law_low [.int a, .int b] R := by
  unfold s_law_low
  rfl'
  rw [abs_nat, abs_nat]
  obtain ⟨r1, r2, g0, gd⟩ := rq_div (a := a) hb
  refine whC_ind (fun s : D × D => ∃ x y : Nat, s = (.int x, .int y) ∧ Nat.gcd x y = Int.gcd a b) (fun s : D × D => match s.2 with | .int i => i.toNat | _ => 0) _ ⟨_, _, rfl, rfl⟩ ?_
  rintro s nx ⟨x, y, rfl, hg⟩ hn
  rfl'
  by_cases hy : 0 < y
  · have e : decide ((0 : Int) < ((y : Nat) : Int)) = true := decide_eq_true (by omega)
    rw [e]
    rfl'
    refine ⟨by omega, hn _ ⟨y, x % y, by rw [fmod_nat], ?_⟩ ?_⟩
    · rw [← hg, Nat.gcd_comm x y, Nat.gcd_rec y x]
      exact Nat.gcd_comm _ _
    · show ((x : Int).fmod (y : Int)).toNat < ((y : Nat) : Int).toNat
      rw [fmod_nat]
      have := Nat.mod_lt x hy
      omega
  · have e : decide ((0 : Int) < ((y : Nat) : Int)) = false := decide_eq_false (by omega)
    rw [e]
    rfl'
    have y0 : y = 0 := by omega
    rw [y0, Nat.gcd_zero_right] at hg
    subst hg
    have da : ((Int.gcd a b : Nat) : Int) ∣ a := Int.gcd_dvd_left ..
    have db : ((Int.gcd a b : Nat) : Int) ∣ b := Int.gcd_dvd_right ..
    by_cases hp : 0 < b
    · rw [decide_eq_true hp]
      rfl'
      obtain ⟨e1, e2⟩ := r1 hp
      have n1 : NP a ((Int.gcd a b : Nat) : Int) := near_q da (by rw [← fdiv_nat, e1]; exact hq.n)
      have n2 : NP b ((Int.gcd a b : Nat) : Int) := near_q db (by rw [← fdiv_nat, e2]; exact hq.d)
      refine ⟨⟨by omega, n1⟩, ⟨by omega, n2⟩, ?_⟩
      rw [e1, e2]
      exact ⟨sz, h⟩
    · rw [decide_eq_false hp]
      rfl'
      obtain ⟨e1, e2⟩ := r2 hp
      have gz : ((Int.gcd a b : Nat) : Int) ≠ 0 := by omega
      have neg : ∀ {z : Int}, ((Int.gcd a b : Nat) : Int) ∣ z → z / (0 - ((Int.gcd a b : Nat) : Int)) = z.fdiv (0 - ((Int.gcd a b : Nat) : Int)) := fun {z} hz => by
        obtain ⟨c, hc⟩ := hz
        have h1 : z = (0 - ((Int.gcd a b : Nat) : Int)) * -c := by rw [hc, Int.zero_sub, Int.neg_mul_neg]
        rw [h1, Int.mul_ediv_cancel_left _ (by omega), Int.mul_fdiv_cancel_left _ (by omega)]
      have dv : ∀ {z : Int}, ((Int.gcd a b : Nat) : Int) ∣ z → (0 - ((Int.gcd a b : Nat) : Int)) ∣ z := fun {z} hz => by rw [Int.zero_sub]; exact Int.neg_dvd.mpr hz
      have n1 : NP a (0 - ((Int.gcd a b : Nat) : Int)) := near_q (dv da) (by rw [neg da, e1]; exact hq.n)
      have n2 : NP b (0 - ((Int.gcd a b : Nat) : Int)) := near_q (dv db) (by rw [neg db, e2]; exact hq.d)
      refine ⟨⟨by omega, n1⟩, ⟨by omega, n2⟩, ?_⟩
      rw [e1, e2]
      exact ⟨sz, h⟩
theorem m_lby2 {p q : Rat} {a b : Nat} {R : D → Prop} (h : Ht a p) (h' : Ht b q) (hab : a + b ≤ 900000) (hq : Ht 4490 (p * q)) (hR : R (encP (p * q))) : s_law_by [encP p, encP q] R := by
  unfold s_law_by
  rfl'
  refine ⟨_, rfl, _, rfl, ?_⟩
  rfl'
  refine ⟨h.n.cm h'.n (by omega), _, rfl, _, rfl, ?_⟩
  rfl'
  refine ⟨h.d.cm h'.d (by omega), m_low2 den0 (by rw [q_by]; exact hq) ?_⟩
  rw [q_by]
  exact hR
/-! ### one number times whole ones -/
def scl (c : Rat) (f : List Int) : List Rat := (Q1 f).map (c * ·)
theorem scl_len {c : Rat} {f : List Int} : (scl c f).length = f.length := by unfold scl; rw [List.length_map, len1]
theorem cf_scl {c : Rat} {f : List Int} {i : Nat} : cf (scl c f) i = c * (ci f i : Rat) := by
  unfold scl
  rw [cf_smul, cfi]
theorem pev_scl {c : Rat} {f : List Int} {x : Rat} : pev (scl c f) x = c * pev (Q1 f) x := pev_smul
theorem scl_tr {c : Rat} {f : List Int} (hc : c ≠ 0) (h : TrI f) : TrQ (scl c f) := TrQ.map (f := (c * ·)) (tr1 h) fun x hx => (Rat.mul_eq_zero.mp hx).resolve_left hc
theorem int_ht {i : Int} {k : Nat} (h : Bt k i) (hk : 0 < k) : Ht k (i : Rat) := by
  have e1 : ((i : Rat)).num = i := rfl
  have e2 : ((i : Rat)).den = 1 := rfl
  exact ⟨by rw [e1]; exact h, by rw [e2]; exact Bt.of 2 (by decide) (Nat.le_trans (by decide) (Nat.pow_le_pow_right (by decide) hk))⟩
theorem frac_ht {c : Rat} {y w : Int} {e k : Nat} (hc : Ht e c) (hw : w ≠ 0) (hy : Bt k y) (hw2 : Bt k w) : Ht (e + k) (c * (y : Rat) / (w : Rat)) := by
  have := rq_ht (k := k) hw hy hw2
  rw [rq_eq] at this
  have h2 := hc.mul this
  rw [Rat.div_def, ← Rat.mul_assoc, ← Rat.div_def] at h2
  exact h2
/-- what is kept in dividing c f by c' g -/
structure Pk (c c' : Rat) (f g : List Int) (B : Nat) (n : Nat) (QH : Nat) (r vals : List Rat) : Prop where
  t : TrQ r
  ex : ∃ (j : Nat) (pw : Int) (y : List Int), j + r.length ≤ f.length ∧ j ≤ f.length + 1 - g.length ∧ pw ≠ 0 ∧ (∀ i, cf r i = c * (ci y i : Rat) / (pw : Rat)) ∧ (∀ i ∈ y, Bt ((j + 1) * (B + 1)) i) ∧ Bt ((j + 1) * (B + 1)) pw ∧ (j = 0 → y = f)
  id : ∀ x, pev (scl c f) x = pev (scl c' g) x * pev vals x + pev r x
  z : ∀ i, i + g.length ≤ r.length → cf vals i = 0
  vl : vals.length = n
  vh : Hs QH vals
theorem Pk.step {c c' : Rat} {f g : List Int} {B n QH e e' : Nat} {r vals : List Rat} (hc : c ≠ 0) (hc' : c' ≠ 0) (ec : Ht e c) (ec' : Ht e' c') (tf : TrI f) (tg : TrI g) (ng : g ≠ []) (bg : ∀ i ∈ g, Bt B i) (hB : 0 < B) (hl : g.length ≤ r.length) (hn : n = f.length + 1 - g.length) (h : Pk c c' f g B n QH r vals) (hQ : Ht QH (cf r (r.length - 1) / cf (scl c' g) (g.length - 1))) :
    Pk c c' f g B n QH (psub r (List.replicate (r.length - g.length) 0 ++ psm (cf r (r.length - 1) / cf (scl c' g) (g.length - 1)) (scl c' g))) (vals.set (r.length - g.length) (cf r (r.length - 1) / cf (scl c' g) (g.length - 1))) ∧ (psub r (List.replicate (r.length - g.length) 0 ++ psm (cf r (r.length - 1) / cf (scl c' g) (g.length - 1)) (scl c' g))).length + 1 ≤ r.length := by
  have lg := List.length_pos_iff.mpr ng
  obtain ⟨j, pw, y, hj, jK, p0, hy, by_, bp, j0⟩ := h.ex
  have g0 : hd g ≠ 0 := hd_ne tg ng
  have gR : (hd g : Rat) ≠ 0 := by exact_mod_cast g0
  have pR : (pw : Rat) ≠ 0 := by exact_mod_cast p0
  generalize hs : r.length - g.length = s at *
  generalize ht : cf r (r.length - 1) / cf (scl c' g) (g.length - 1) = t at *
  have eT : t = c * (ci y (r.length - 1) : Rat) / (pw : Rat) / (c' * (hd g : Rat)) := by
    rw [← ht, hy, cf_scl]
  have cX : ∀ i, cf (List.replicate s 0 ++ psm t (scl c' g)) i = if s ≤ i then t * (c' * (ci g (i - s) : Rat)) else 0 := fun i => by
    have := cf_shq (l := psm t (scl c' g)) (i := i) (s := s)
    unfold shq at this
    rw [this, cf_psm, cf_scl]
  have cN : ∀ i, cf (psub r (List.replicate s 0 ++ psm t (scl c' g))) i = c * (((hd g * ci y i - ci y (r.length - 1) * shf g s i : Int)) : Rat) / ((pw * hd g : Int) : Rat) := fun i => by
    rw [cf_psub, cX, hy, eT, Rat.intCast_sub, Rat.intCast_mul, Rat.intCast_mul, Rat.intCast_mul]
    unfold shf
    split
    · have := Rat.mul_inv_cancel _ gR
      have := Rat.mul_inv_cancel _ pR
      have := Rat.mul_inv_cancel _ hc'
      simp only [Rat.div_def, Rat.inv_mul_rev]
      grind
    · rw [Rat.intCast_zero]
      have := Rat.mul_inv_cancel _ gR
      have := Rat.mul_inv_cancel _ pR
      simp only [Rat.div_def, Rat.inv_mul_rev]
      grind
  have yz : ∀ i, r.length ≤ i → ci y i = 0 := fun i hi => by
    have := hy i
    rw [cf_ge hi] at this
    have h2 : c * (ci y i : Rat) * (pw : Rat)⁻¹ = 0 := by rw [← Rat.div_def]; exact this.symm
    have h3 := (Rat.mul_eq_zero.mp h2).resolve_right (fun z => by
      have := Rat.mul_inv_cancel _ pR
      rw [z, Rat.mul_zero] at this
      exact absurd this (by decide))
    have h4 := (Rat.mul_eq_zero.mp h3).resolve_left hc
    exact_mod_cast h4
  have sgz : ∀ i, r.length ≤ i → shf g s i = 0 := fun i hi => by
    unfold shf
    split
    · exact ci_ge (by omega)
    · rfl
  have sgt : shf g s (r.length - 1) = hd g := by
    unfold shf
    rw [if_pos (by omega)]
    unfold hd
    congr 1
    omega
  have van : ∀ i, r.length - 1 ≤ i → hd g * ci y i - ci y (r.length - 1) * shf g s i = 0 := fun i hi => by
    by_cases h1 : i = r.length - 1
    · subst h1
      rw [sgt, Int.mul_comm]
      omega
    · rw [yz i (by omega), sgz i (by omega)]
      simp
  have lnew : (psub r (List.replicate s 0 ++ psm t (scl c' g))).length + 1 ≤ r.length := by
    refine Nat.lt_of_not_le fun hle => ?_
    have ne : psub r (List.replicate s 0 ++ psm t (scl c' g)) ≠ [] := fun z => by
      rw [z] at hle
      have : r.length ≤ 0 := hle
      omega
    have top := TrQ.last (p := psub r (List.replicate s 0 ++ psm t (scl c' g))) trQ_trim ne
    apply top
    rw [cN, van _ (by omega), Rat.intCast_zero, Rat.mul_zero, Rat.div_def, Rat.zero_mul]
  have sn : s < n := by omega
  have svl : s < vals.length := by rw [h.vl]; exact sn
  refine ⟨⟨trQ_trim, ⟨j + 1, pw * hd g, (List.range r.length).map fun i => hd g * ci y i - ci y (r.length - 1) * shf g s i, by omega, by omega, Int.mul_ne_zero p0 g0, fun i => ?_, fun i hi => ?_, ?_, fun z => nomatch z⟩, fun x => ?_, fun i hi => ?_, by rw [List.length_set, h.vl], fun q hq => ?_⟩, lnew⟩
  · rw [cN]
    congr 3
    by_cases hi : i < r.length
    · unfold ci
      rw [List.getElem?_map, List.getElem?_range hi]
      rfl
    · rw [ci_ge (a := (List.range r.length).map _) (by rw [List.length_map, List.length_range]; omega), yz i (by omega), sgz i (by omega)]
      simp
  · obtain ⟨k, _, rfl⟩ := List.mem_map.mp hi
    have e1 : (j + 1 + 1) * (B + 1) = (j + 1) * (B + 1) + B + 1 := by rw [Nat.succ_mul]; omega
    rw [e1]
    have hg : Bt B (hd g) := ci_bt bg
    exact ((hg.mul (ci_bt by_ : Bt ((j + 1) * (B + 1)) (ci y k))).mono (by omega)).sub (((ci_bt by_ : Bt ((j + 1) * (B + 1)) (ci y (r.length - 1))).mul (shf_bt bg)).mono (by omega))
  · have e1 : (j + 1 + 1) * (B + 1) = (j + 1) * (B + 1) + B + 1 := by rw [Nat.succ_mul]; omega
    rw [e1]
    have hg : Bt B (hd g) := ci_bt bg
    exact (bp.mul hg).mono (by omega)
  · have e1 : pev (vals.set s t) x = pev vals x + x ^ s * t := by
      have e2 : pev (vals.set s t) x = pev (zipL (· + ·) vals (shq s [t])) x := pev_congr fun i => by
        rw [cf_set svl, cf_add, cf_shq]
        by_cases hi : i = s
        · subst hi
          rw [if_pos rfl, if_pos (Nat.le_refl _), h.z i (by omega), Nat.sub_self]
          show t = 0 + t
          grind
        · rw [if_neg hi]
          split
          · rw [cf_ge (p := [t]) (by rw [List.length_singleton]; omega)]
            grind
          · grind
      rw [e2, pev_add, pev_shq, pev_one]
    have e3 : pev (psub r (List.replicate s 0 ++ psm t (scl c' g))) x = pev r x - x ^ s * (t * pev (scl c' g) x) := by
      rw [pev_psub]
      have := pev_shq (l := psm t (scl c' g)) (s := s) (x := x)
      unfold shq at this
      rw [this, pev_psm]
    rw [h.id x, e1, e3]
    grind
  · rw [cf_set svl, if_neg (by omega)]
    exact h.z i (by omega)
  · rcases List.mem_or_eq_of_mem_set hq with h1 | h1
    · exact h.vh q h1
    · rw [h1]
      exact hQ
end Ml
set_option Elab.async false
set_option linter.all false
set_option maxRecDepth 100000
set_option maxHeartbeats 400000
set_option exponentiation.threshold 20000
namespace Ml
open PySem L2 Inn Uv Sl
/-- quotient and rest of c f by c' g, as the law has them -/
structure Qr (c c' : Rat) (f g : List Int) (B QH : Nat) (u r : List Rat) : Prop where
  tu : TrQ u
  tr : TrQ r
  lr : r.length < g.length
  id : ∀ x, pev (scl c f) x = pev (scl c' g) x * pev u x + pev r x
  ex : ∃ (pw : Int) (y : List Int), pw ≠ 0 ∧ (∀ i, cf r i = c * (ci y i : Rat) / (pw : Rat)) ∧ (∀ i ∈ y, Bt ((f.length + 1 - g.length + 1) * (B + 1)) i) ∧ Bt ((f.length + 1 - g.length + 1) * (B + 1)) pw ∧ (f.length < g.length → y = f)
  hu : Hs QH u
  lu : u.length ≤ f.length + 1 - g.length
theorem iP_last {l : List Rat} (h : 0 < l.length) : atI (l.map encP) (-1) = some (encP (cf l (l.length - 1))) := by
  rw [Uv.atI_last (by intro z; rw [List.map_eq_nil_iff] at z; rw [z] at h; exact absurd h (by decide)), List.length_map]
  exact iQ_get (cf_lt (by omega))
theorem ht_scl {c : Rat} {f : List Int} {e B : Nat} (hc : Ht e c) (bf : ∀ i ∈ f, Bt B i) (hB : 0 < B) : Hs (e + B) (scl c f) := fun q hq => by
  obtain ⟨x, hx, rfl⟩ := List.mem_map.mp hq
  obtain ⟨i, hi, rfl⟩ := List.mem_map.mp hx
  have e1 : ((i : Int) : Rat) / ((1 : Nat) : Rat) = (i : Rat) := by
    show (i : Rat) / 1 = _
    grind
  show Ht _ (c * (((i : Int) : Rat) / ((1 : Nat) : Rat)))
  rw [e1]
  exact hc.mul (int_ht (bf i hi) hB)
end Ml
set_option Elab.async false
set_option linter.all false
set_option maxRecDepth 100000
set_option maxHeartbeats 400000
set_option exponentiation.threshold 20000
namespace Ml
open PySem L2 Inn Uv Sl
/-! ### with the head 1 -/
def mon (F : List Rat) : List Rat := psm (1 / cf F (F.length - 1)) F
theorem dd_self {F : List Rat} : Dd F F := ⟨[1], fun x => by rw [pev_one]; grind⟩
theorem dd_zero {G : List Rat} (h : Dd [] G) (t : TrQ G) : G = [] := by
  obtain ⟨u, hu⟩ := h
  refine poly_ext t (fun a e => nomatch e) fun k => ?_
  have : ∀ x, pev G x = pev ([] : List Rat) x := fun x => by
    rw [hu]
    show (0 : Rat) * _ = 0
    grind
  exact cf_of_pev this k
theorem dd_len {F G : List Rat} (h : Dd F G) (tF : TrQ F) (tG : TrQ G) (nG : G ≠ []) : ∃ u, TrQ u ∧ u ≠ [] ∧ G = ptim F u ∧ F.length + u.length = G.length + 1 := by
  obtain ⟨u, hu⟩ := h
  have e : G = ptim F (trimQ u) := pev_ext tG trQ_trim fun x => by rw [pev_tim, pev_trim, hu]
  have nF : F ≠ [] := fun z => nG (by
    rw [e, z]
    exact poly_ext trQ_trim (fun a e => nomatch e) fun k => by rw [cf_ptim]; rfl)
  have nu : trimQ u ≠ [] := fun z => nG (by
    rw [e, z]
    exact poly_ext trQ_trim (fun a e => nomatch e) fun k => by rw [cf_ptim]; exact mulc_nil fun k => cf_nil)
  have l := tim_len tF trQ_trim nF nu
  rw [← e] at l
  have := List.length_pos_iff.mpr nF
  exact ⟨trimQ u, trQ_trim, nu, e, by omega⟩
theorem mono_eq {F G : List Rat} (tF : TrQ F) (tG : TrQ G) (h : ∀ d, Dd d F ↔ Dd d G) : mon F = mon G := by
  have fg := (h F).mp dd_self
  have gf := (h G).mpr dd_self
  by_cases zF : F = []
  · have zG : G = [] := by
      rw [zF] at fg
      exact dd_zero fg tG
    rw [zF, zG]
  · have zG : G ≠ [] := fun z => zF (by
      rw [z] at gf
      exact dd_zero gf tF)
    obtain ⟨u, tu, nu, eu, lu⟩ := dd_len fg tF tG zG
    obtain ⟨v, tv, nv, ev, lv⟩ := dd_len gf tG tF zF
    have pu := List.length_pos_iff.mpr nu
    have pv := List.length_pos_iff.mpr nv
    obtain ⟨c, rfl⟩ := List.length_eq_one_iff.mp (show u.length = 1 by omega)
    have c0 : c ≠ 0 := TrQ.last tu nu
    have ec : ∀ k, cf G k = c * cf F k := fun k => by
      have : ∀ x, pev G x = pev (psm c F) x := fun x => by
        rw [eu, pev_tim, pev_psm, pev_one]
        grind
      rw [cf_of_pev this, cf_psm]
    have ll : F.length = G.length := by simp only [List.length_singleton] at lu; omega
    have l0 := TrQ.last tF zF
    refine trim_congr fun k => ?_
    rw [cf_smul, cf_smul, ec, ec, ll]
    rw [ll] at l0
    have := Rat.mul_inv_cancel _ c0
    have := Rat.mul_inv_cancel _ l0
    simp only [Rat.div_def, Rat.inv_mul_rev]
    grind
/-- a polynomial as a number times whole ones -/
theorem scl_of {N k : Nat} {p : List Rat} (hp : Pl N k p) (hN : N ≠ 0) (hk : N < 2 ^ k) (t : TrQ p) (h0 : 0 < k) : ∃ (c : Rat) (a : List Int), c ≠ 0 ∧ p = scl c a ∧ Br k a ∧ Ht k c := by
  by_cases z : p = []
  · subst z
    refine ⟨1, [], by decide, rfl, ⟨(fun _ h => (by cases h)), (fun h => absurd rfl h), (fun _ h => nomatch h)⟩, ?_⟩
    exact int_ht (i := 1) (Bt.of 2 (by decide) (Nat.le_trans (by decide : 2 ≤ 2 ^ 1) (Nat.pow_le_pow_right (by decide) h0))) h0
  · have eN : lft N (upto N p) = p := upto_lft hN fun q hq => hp.den hN q hq
    have bN := upto_bt hp hN (Nat.dvd_refl N)
    generalize upto N p = X at *
    have tX : trim X = X := by
      refine trimZ_of fun x hx => ?_
      have l := t ((x : Rat) / (N : Rat)) (by rw [← eN, List.getLast?_map, hx]; rfl)
      dsimp only at l
      rw [q_eq0] at l
      show (x == 0) = false
      refine beq_eq_false_iff_ne.mpr fun e => ?_
      rw [e, Rat.intCast_zero] at l
      have : (0 : Rat) / (N : Rat) = 0 := by grind
      rw [this] at l
      simp at l
    have nX : X ≠ [] := fun e => z (by rw [← eN, e]; rfl)
    obtain ⟨g, g0, eg⟩ := bareL_sc X
    rw [tX] at eg
    have Nr : (N : Rat) ≠ 0 := by exact_mod_cast hN
    have gr : (g : Rat) ≠ 0 := by exact_mod_cast g0
    refine ⟨(g : Rat) / (N : Rat), bareL X, ?_, ?_, bareL_br (bare_bt bN), ?_⟩
    · intro e
      rw [Rat.div_def] at e
      exact (Rat.mul_eq_zero.mp e).elim gr fun z => by
        have := Rat.mul_inv_cancel _ Nr
        rw [z, Rat.mul_zero] at this
        exact absurd this (by decide)
    · rw [← eN]
      conv => lhs; rw [eg]
      unfold scl
      show List.map _ (List.map _ _) = List.map _ (List.map _ _)
      rw [List.map_map, List.map_map]
      refine List.map_congr_left fun i _ => ?_
      show ((g * i : Int) : Rat) / (N : Rat) = (g : Rat) / (N : Rat) * ((i : Rat) / 1)
      rw [Rat.intCast_mul]
      grind
    · have b1 : Bt k g := by
        have hh := hd_ne (a := X) (tX ▸ trimZ_trimd) nX
        have hm : hd X = g * ci (bareL X) (X.length - 1) := by
          unfold hd
          conv => lhs; rw [eg]
          rw [ci_smul]
          congr 2
          rw [List.length_map, ← List.length_map (f := fun x => g * x) (as := bareL X), ← eg]
        refine (ci_bt bN : Bt k (hd X)).le ?_
        show g.natAbs ≤ (hd X).natAbs
        have e9 := congrArg Int.natAbs hm
        rw [Int.natAbs_mul] at e9
        rw [e9]
        exact Nat.le_mul_of_pos_right _ (Int.natAbs_pos.mpr fun e => hh (by rw [hm, e, Int.mul_zero]))
      have := rq_ht (a := g) (b := (N : Nat)) (k := k) (by omega) b1 (nat_bt hk)
      rw [rq_nat] at this
      exact this
end Ml
set_option Elab.async false
set_option linter.all false
set_option maxRecDepth 100000
set_option maxHeartbeats 400000
set_option exponentiation.threshold 20000
namespace Ml
open PySem L2 Inn Uv Sl
/-- how great the numbers ahead of the rests grow: by their lengths -/
structure Tb (L h e0 : Nat) (F G : Nat → Nat → Nat) : Prop where
  i1 : ∀ lb ≤ L, ∀ lr < lb, e0 ≤ F lb lr
  i2 : ∀ la ≤ L, ∀ lb ≤ L, ∀ lr < lb, e0 + (la + 1 - lb + 1) * (h + 1) ≤ G lb lr
  s1 : ∀ lf ≤ L, ∀ lg < lf, ∀ lr < lg, G lf lg ≤ F lg lr
  s2 : ∀ lf ≤ L, ∀ lg < lf, ∀ lr < lg, F lf lg + (lf + 1 - lg + 1) * (beta (2 * L) lf h + 1) ≤ G lg lr
  e1 : ∀ lf ≤ L, ∀ lg < lf, F lf lg + (lf + 1 - lg + 1) * (beta (2 * L) lf h + 1) ≤ 3990 ∧ F lf lg + (lf + 1 - lg + 1) * (beta (2 * L) lf h + 1) + (G lf lg + beta (2 * L) lf h) ≤ 8000
  e2 : e0 + (L + 2) * (h + 1) ≤ 3990 ∧ e0 + (L + 2) * (h + 1) + (e0 + h) ≤ 8000
  h0 : 0 < h
  L0 : L ≤ 30
/-- p and q have the common part F -/
def Gp (p q F : List Rat) : Prop := TrQ F ∧ ∀ d, (Dd d p ∧ Dd d q) ↔ Dd d F
theorem Gp.mon {p q F G : List Rat} (h : Gp p q F) (h' : Gp p q G) : mon F = mon G := mono_eq h.1 h'.1 fun d => (h.2 d).symm.trans (h'.2 d)
end Ml
set_option Elab.async false
set_option linter.all false
set_option maxRecDepth 100000
set_option maxHeartbeats 400000
set_option exponentiation.threshold 20000
namespace Ml
open PySem L2 Inn Uv Sl
theorem m_overI {L : Int} {k : Nat} {a : List Int} {R : D → Prop} (hL : L ≠ 0) (hk : Bt k L) (hk2 : k ≤ 9000) (hl : a.length ≤ sizeLine) (h : R (encQ (a.map fun i : Int => (i : Rat) / (L : Rat)))) : s_ratios_over [iL a, .int L] R := by
  unfold s_ratios_over
  rfl'
  refine ⟨by rw [List.length_map]; exact hl, mapD_map (φ := fun i : Int => encR ((i : Rat) / (L : Rat))) (fun i _ R' h => ?_) ?_⟩
  · exact m_mkF hL hk hk2 (by rw [rq_eq]; exact h)
  · have e : a.map (fun i : Int => encR ((i : Rat) / (L : Rat))) = (a.map fun i : Int => (i : Rat) / (L : Rat)).map encR := by rw [List.map_map]; rfl
    rw [e]
    exact h
theorem mon_Q1 {f : List Int} (t : TrI f) (n : f ≠ []) : f.map (fun i : Int => (i : Rat) / ((hd f : Int) : Rat)) = mon (Q1 f) := by
  have g0 := hd_ne t n
  have gR : (hd f : Rat) ≠ 0 := by exact_mod_cast g0
  have e : f.map (fun i : Int => (i : Rat) / ((hd f : Int) : Rat)) = (Q1 f).map (fun x => (1 / cf (Q1 f) ((Q1 f).length - 1)) * x) := by
    rw [len1, cfi]
    show _ = List.map _ (List.map _ _)
    rw [List.map_map]
    refine List.map_congr_left fun i _ => ?_
    show (i : Rat) / ((hd f : Int) : Rat) = (1 / ((hd f : Int) : Rat)) * ((i : Rat) / 1)
    simp only [Rat.div_def]
    grind
  rw [e]
  unfold mon psm
  refine (trimZ_of (TrQ.map (f := fun x => (1 / cf (Q1 f) ((Q1 f).length - 1)) * x) (tr1 t) fun x hx => ?_)).symm
  refine (Rat.mul_eq_zero.mp hx).resolve_left fun z => ?_
  rw [len1, cfi] at z
  have : (1 : Rat) / ((hd f : Int) : Rat) = 0 := z
  rw [Rat.div_def, Rat.one_mul] at this
  have h1 := Rat.mul_inv_cancel _ gR
  rw [this, Rat.mul_zero] at h1
  exact absurd h1 (by decide)
theorem abs_over {i w : Int} {k : Nat} (hw : w ≠ 0) (b : Bt k i) : ∃ a : Int, (i : Rat) / (w : Rat) = (a : Rat) / ((w.natAbs : Nat) : Rat) ∧ Bt k a := by
  rcases Int.natAbs_eq w with z | z
  · refine ⟨i, ?_, b⟩
    conv => lhs; rw [z]
    rfl
  · refine ⟨-i, ?_, b.neg⟩
    conv => lhs; rw [z]
    have wR : ((w.natAbs : Nat) : Rat) ≠ 0 := by exact_mod_cast Int.natAbs_ne_zero.mpr hw
    rw [Rat.intCast_neg, Rat.intCast_neg, Rat.intCast_natCast]
    grind
/-! ### quotient and rest -/
/-- p is q times u, and r -/
structure Qe (p q u r : List Rat) : Prop where
  tu : TrQ u
  tr : TrQ r
  lr : r.length < (trimQ q).length
  id : ∀ x, pev p x = pev q x * pev u x + pev r x
end Ml
set_option Elab.async false
set_option linter.all false
set_option maxRecDepth 100000
set_option maxHeartbeats 400000
set_option exponentiation.threshold 20000
namespace Ml
open PySem L2 Inn Uv Sl
/-- handed over, with noughts behind -/
theorem Gv.po {p : List Rat} {v : D} {N k : Nat} (h : Gv p v) (hp : Pl N k p) (hl : p.length ≤ 10) : ∃ qs, Po N k v qs ∧ trimQ qs = trimQ p ∧ qs.length ≤ 12 := by
  obtain ⟨ds, j, hs, hn, hj⟩ := h.ex
  refine ⟨p ++ List.replicate j 0, ⟨⟨ds, hs, hn⟩, by rw [List.length_append, List.length_replicate]; omega, fun q hq => ?_⟩, trim_congr fun i => ?_, by rw [List.length_append, List.length_replicate]; omega⟩
  · rcases List.mem_append.mp hq with h1 | h1
    · exact hp q h1
    · rw [(List.mem_replicate.mp h1).2]
      exact ⟨0, by rw [Rat.intCast_zero]; grind, Bt.zero⟩
  · by_cases hi : i < p.length
    · unfold cf
      rw [List.getElem?_append_left hi]
    · rw [cf_ge (p := p) (by omega)]
      unfold cf
      rw [List.getElem?_append_right (by omega), List.getElem?_replicate]
      split <;> rfl
/-- a polynomial of the law -/
structure L14 (p : List Rat) : Prop where
  t : TrQ p
  l : p.length ≤ 9
  pl : Pl 36 13 p
theorem L14.hs {p : List Rat} (h : L14 p) : Hs 13 p := h.pl.hs (by decide) (by decide) (by decide)
end Ml
set_option Elab.async false
set_option linter.all false
set_option maxRecDepth 100000
set_option maxHeartbeats 400000
set_option exponentiation.threshold 20000
namespace Ml
open PySem L2 Inn Uv Sl
end Ml
set_option Elab.async false
set_option linter.all false
set_option maxRecDepth 100000
set_option maxHeartbeats 400000
set_option exponentiation.threshold 20000
namespace Ml
open PySem L2 Inn Uv Sl
/-! ### shares: what the rounds with shares keep -/
/-- a number that makes ints of all of a list without a divisor common to all is an int -/
theorem int_of_prim {G : List Int} {c : Rat} (cg : cont G = 1) (h : ∀ x ∈ G, ∃ y : Int, (y : Rat) = c * (x : Rat)) : ∃ m : Int, c = (m : Rat) := by
  have d1 : c.den ∣ cont (G.map fun x => c.num * x) := dvd_cont fun x hx => by
    obtain ⟨y, hy, rfl⟩ := List.mem_map.mp hx
    obtain ⟨z, hz⟩ := h y hy
    have d0 : (c.den : Rat) ≠ 0 := by exact_mod_cast c.den_nz
    have h2 : (c.num : Rat) * (y : Rat) = (c.den : Rat) * (z : Rat) := by
      rw [hz]
      have h3 : c * (c.den : Rat) = c.num := by
        have e := q_of c
        generalize (c.num : Rat) = n at *
        generalize (c.den : Rat) = d at *
        rw [e]
        grind
      rw [← h3]
      grind
    exact ⟨z, by exact_mod_cast h2⟩
  rw [cont_mul, cg, Nat.mul_one] at d1
  have d2 : c.den = 1 := by
    have := c.reduced
    have h3 : c.den ∣ Nat.gcd c.num.natAbs c.den := Nat.dvd_gcd d1 (Nat.dvd_refl _)
    rw [this] at h3
    exact Nat.eq_one_of_dvd_one h3
  refine ⟨c.num, ?_⟩
  have e := q_of c
  rw [d2] at e
  rw [e]
  grind
theorem le_mulc {x y m : Int} (hm : m ≠ 0) (h : y = m * x) : x.natAbs ≤ y.natAbs := by
  rw [h, Int.natAbs_mul]
  exact Nat.le_mul_of_pos_left _ (Int.natAbs_pos.mpr hm)
theorem eq_tim {p s t : List Rat} (tp : TrQ p) (e : ∀ x, pev p x = pev s x * pev t x) : p = ptim s t := pev_ext tp trQ_trim fun x => by rw [pev_tim]; exact e x
theorem len_tim {p s t : List Rat} (tp : TrQ p) (ts : TrQ s) (tt : TrQ t) (ns : s ≠ []) (nt : t ≠ []) (e : ∀ x, pev p x = pev s x * pev t x) : p.length = s.length + t.length - 1 := by rw [eq_tim tp e, tim_len ts tt ns nt]
theorem len_add {p s t : List Rat} (tp : TrQ p) (ts : TrQ s) (h : t.length < s.length) (e : ∀ x, pev p x = pev s x + pev t x) : p.length = s.length := by
  rw [pev_ext tp trQ_trim (q := padd s t) fun x => by rw [pev_padd]; exact e x]
  exact add_len h ts
theorem tim_le {s t : List Rat} (ts : TrQ s) (tt : TrQ t) : (ptim s t).length ≤ s.length + t.length - 1 := by
  by_cases h1 : s = []
  · subst h1
    have : ptim [] t = [] := pev_ext trQ_trim (fun a e => nomatch e) fun x => by
      rw [pev_tim]
      show (0 : Rat) * _ = 0
      grind
    rw [this]
    exact Nat.zero_le _
  · by_cases h2 : t = []
    · subst h2
      have : ptim s [] = [] := pev_ext trQ_trim (fun a e => nomatch e) fun x => by
        rw [pev_tim]
        show _ * (0 : Rat) = 0
        grind
      rw [this]
      exact Nat.zero_le _
    · exact Nat.le_of_eq (tim_len ts tt h1 h2)
structure Sh (a b f u v g s t : List Int) : Prop where
  ef : ∀ x, pev (Q1 f) x = pev (Q1 u) x * pev (Q1 a) x + pev (Q1 v) x * pev (Q1 b) x
  eg : ∀ x, pev (Q1 g) x = pev (Q1 s) x * pev (Q1 a) x + pev (Q1 t) x * pev (Q1 b) x
  dt : ∃ c : Rat, c ≠ 0 ∧ ∀ x, pev (Q1 u) x * pev (Q1 t) x - pev (Q1 v) x * pev (Q1 s) x = c
  tf : TrI f
  tg : TrI g
  tu : TrI u
  tv : TrI v
  ts : TrI s
  tt : TrI t
theorem Sh.init {a b : List Int} (ta : TrI a) (tb : TrI b) : Sh a b a [1] [] b [] [1] := by
  have e1 : ∀ x, pev (Q1 [1]) x = 1 := fun x => by
    show ((1 : Int) : Rat) / 1 + x * 0 = _
    grind
  have e0 : ∀ x, pev (Q1 []) x = 0 := fun x => rfl
  have t1 : TrI [1] := fun a h => by cases h; rfl
  have t0 : TrI [] := fun a h => nomatch h
  refine ⟨fun x => ?_, fun x => ?_, ⟨1, by decide, fun x => ?_⟩, ta, tb, t1, t0, t0, t1⟩
  · rw [e1, e0]; grind
  · rw [e1, e0]; grind
  · rw [e1, e0]; grind
/-- one round -/
theorem Sh.step {a b f u v g s t g' s' t' : List Int} {κ ρ : Rat} {q : List Rat} (h : Sh a b f u v g s t) (κ0 : κ ≠ 0) (ρ0 : ρ ≠ 0) (tg' : TrI g') (ts' : TrI s') (tt' : TrI t')
    (e0 : ∀ x, ρ * pev (Q1 g') x = κ * pev (Q1 f) x - pev q x * pev (Q1 g) x) (e1 : ∀ x, ρ * pev (Q1 s') x = κ * pev (Q1 u) x - pev q x * pev (Q1 s) x) (e2 : ∀ x, ρ * pev (Q1 t') x = κ * pev (Q1 v) x - pev q x * pev (Q1 t) x) :
    Sh a b g s t g' s' t' := by
  obtain ⟨c, c0, hc⟩ := h.dt
  refine ⟨h.eg, fun x => rcan ρ0 ?_, ⟨-(κ * c / ρ), ?_, fun x => rcan ρ0 ?_⟩, h.tg, tg', h.ts, h.tt, ts', tt'⟩
  · rw [e0, h.ef x, h.eg x]
    have := e1 x
    have := e2 x
    grind
  · intro z
    have i1 : ρ * ρ⁻¹ = 1 := Rat.mul_inv_cancel _ ρ0
    have : κ * c = 0 := by
      rw [Rat.div_def] at z
      have : κ * c * ρ⁻¹ * ρ = 0 := by grind
      grind
    rcases Rat.mul_eq_zero.mp this with z | z
    · exact κ0 z
    · exact c0 z
  · have a1 := e1 x
    have a2 := e2 x
    have a3 := hc x
    have i1 : ρ * (κ * c / ρ) = κ * c := by grind
    grind
/-- the lengths behind the first round -/
structure Shl (b f u g s : List Int) : Prop where
  l1 : g.length < f.length
  l2 : u.length < s.length
  l3 : s.length + f.length = b.length + 1
theorem Shl.step {b f u g s g' s' : List Int} {κ ρ : Rat} {q : List Rat} (l : Shl b f u g s) (κ0 : κ ≠ 0) (ρ0 : ρ ≠ 0) (ng : g ≠ []) (tf : TrI f) (tg : TrI g) (tu : TrI u) (ts : TrI s) (tg' : TrI g') (ts' : TrI s') (tq : TrQ q)
    (e0 : ∀ x, ρ * pev (Q1 g') x = κ * pev (Q1 f) x - pev q x * pev (Q1 g) x) (e1 : ∀ x, ρ * pev (Q1 s') x = κ * pev (Q1 u) x - pev q x * pev (Q1 s) x) (lg : g'.length < g.length) : Shl b g s g' s' := by
  have l1 := l.l1
  have l2 := l.l2
  have l3 := l.l3
  have tkf : TrQ (psm κ (Q1 f)) := trQ_trim
  have psml : ∀ {k : Rat} {p : List Int}, k ≠ 0 → TrI p → (psm k (Q1 p)).length = p.length := fun {k p} hk tp => by
    have le1 : (psm k (Q1 p)).length ≤ p.length := by rw [← len1 (a := p)]; exact psm_le1
    have e : Q1 p = psm (1 / k) (psm k (Q1 p)) := pev_ext (tr1 tp) trQ_trim fun x => by
      rw [pev_psm, pev_psm]
      grind
    have le2 : p.length ≤ (psm k (Q1 p)).length := by
      have : (Q1 p).length ≤ (psm k (Q1 p)).length := by
        conv => lhs; rw [e]
        exact psm_le1
      rwa [len1] at this
    omega
  have nq : q ≠ [] := fun z => by
    subst z
    have : psm ρ (Q1 g') = psm κ (Q1 f) := pev_ext trQ_trim trQ_trim fun x => by
      rw [pev_psm, pev_psm, e0 x]
      show _ - (0 : Rat) * _ = _
      grind
    have := congrArg List.length this
    rw [psml ρ0 tg', psml κ0 tf] at this
    omega
  have lq : q.length + g.length = f.length + 1 := by
    have e : ∀ x, pev (psm κ (Q1 f)) x = pev (ptim q (Q1 g)) x + pev (psm ρ (Q1 g')) x := fun x => by
      rw [pev_psm, pev_tim, pev_psm, e0 x]
      grind
    have tl := tim_len tq (tr1 tg) nq (by intro z; exact ng (List.length_eq_zero_iff.mp (by rw [← len1 (a := g), z]; rfl)))
    rw [len1] at tl
    have lq0 := List.length_pos_iff.mpr nq
    have := len_add (p := psm κ (Q1 f)) trQ_trim trQ_trim (by rw [psml ρ0 tg', tl]; omega) e
    rw [psml κ0 tf, tl] at this
    omega
  have ns : s ≠ [] := fun z => by rw [z] at l2; exact absurd l2 (Nat.not_lt_zero _)
  have ls : s'.length + g.length = b.length + 1 := by
    have tl := tim_len tq (tr1 ts) nq (by intro z; exact ns (List.length_eq_zero_iff.mp (by rw [← len1 (a := s), z]; rfl)))
    rw [len1] at tl
    have e : ∀ x, pev (psm (-ρ) (Q1 s')) x = pev (ptim q (Q1 s)) x + pev (psm (-κ) (Q1 u)) x := fun x => by
      rw [pev_psm, pev_tim, pev_psm]
      have := e1 x
      grind
    have := len_add (p := psm (-ρ) (Q1 s')) trQ_trim trQ_trim (by rw [psml (by grind) tu, tl]; omega) e
    rw [psml (by grind) ts', tl] at this
    omega
  exact ⟨lg, by omega, ls⟩
end Ml
set_option Elab.async false
set_option linter.all false
set_option maxRecDepth 100000
set_option maxHeartbeats 400000
set_option exponentiation.threshold 20000
namespace Ml
open PySem L2 Inn Uv Sl
theorem q1_nil {s : List Int} (h : Q1 s = []) : s = [] := List.length_eq_zero_iff.mp (by rw [← len1 (a := s), h]; rfl)
theorem q1_ne {s : List Int} (h : s ≠ []) : Q1 s ≠ [] := fun z => h (q1_nil z)
theorem zz {z : List Int} (hz : trimQ (Q1 z) = []) (i : Nat) : ci z i = 0 := by
  have := cf_trimZ (p := Q1 z) (k := i)
  rw [hz, cf_nil, cfi] at this
  exact_mod_cast this.symm
theorem nil_of {p s t : List Rat} (tp : TrQ p) (h : s = [] ∨ t = []) (e : ∀ x, pev p x = pev s x * pev t x) : p = [] := pev_ext tp (fun a e => nomatch e) fun x => by
  rw [e x]
  rcases h with rfl | rfl
  · show (0 : Rat) * _ = 0
    grind
  · show _ * (0 : Rat) = 0
    grind
/-- a combination of both of small degrees is a number times the later one -/
theorem Sh.small {a b f u v g s t : List Int} {U V w : List Rat} (h : Sh a b f u v g s t) (l : Shl b f u g s) (tU : TrQ U) (tV : TrQ V) (tw : TrQ w) (lU : U.length ≤ s.length) (lw : w.length < f.length) (nz : U ≠ [] ∨ V ≠ [])
    (e : ∀ x, pev w x = pev U x * pev (Q1 a) x + pev V x * pev (Q1 b) x) : ∃ k : Rat, k ≠ 0 ∧ (∀ x, pev w x = k * pev (Q1 g) x) ∧ (∀ x, pev U x = k * pev (Q1 s) x) ∧ ∀ x, pev V x = k * pev (Q1 t) x := by
  obtain ⟨c, c0, hc⟩ := h.dt
  have ic : c * (1 / c) = 1 := by grind
  have exA : ∃ A : List Rat, TrQ A ∧ ∀ x, c * pev A x = pev U x * pev (Q1 t) x - pev V x * pev (Q1 s) x := ⟨psm (1 / c) (psub (ptim U (Q1 t)) (ptim V (Q1 s))), trQ_trim, fun x => by rw [pev_psm, pev_psub, pev_tim, pev_tim]; grind⟩
  have exB : ∃ B : List Rat, TrQ B ∧ ∀ x, c * pev B x = pev V x * pev (Q1 u) x - pev U x * pev (Q1 v) x := ⟨psm (1 / c) (psub (ptim V (Q1 u)) (ptim U (Q1 v))), trQ_trim, fun x => by rw [pev_psm, pev_psub, pev_tim, pev_tim]; grind⟩
  obtain ⟨A, tA, eA⟩ := exA
  obtain ⟨B, tB, eB⟩ := exB
  have eU : ∀ x, pev U x = pev A x * pev (Q1 u) x + pev B x * pev (Q1 s) x := fun x => rcan c0 (by
    have := eA x
    have := eB x
    have := hc x
    grind)
  have eV : ∀ x, pev V x = pev A x * pev (Q1 v) x + pev B x * pev (Q1 t) x := fun x => rcan c0 (by
    have := eA x
    have := eB x
    have := hc x
    grind)
  have ew : ∀ x, pev w x = pev A x * pev (Q1 f) x + pev B x * pev (Q1 g) x := fun x => by
    rw [e x, eU x, eV x, h.ef x, h.eg x]
    grind
  have l1 := l.l1
  have l2 := l.l2
  have nf : f ≠ [] := fun z => by rw [z] at l1; exact absurd l1 (Nat.not_lt_zero _)
  have ns : s ≠ [] := fun z => by rw [z] at l2; exact absurd l2 (Nat.not_lt_zero _)
  have A0 : A = [] := Classical.byContradiction fun nA => by
    have lA := List.length_pos_iff.mpr nA
    have lf := tim_len tA (tr1 h.tf) nA (q1_ne nf)
    rw [len1] at lf
    have lBg : (ptim A (Q1 f)).length ≤ (ptim B (Q1 g)).length := Nat.le_of_not_lt fun hl => by
      have := len_add (p := w) (s := ptim A (Q1 f)) (t := ptim B (Q1 g)) tw trQ_trim hl fun x => by rw [pev_tim, pev_tim]; exact ew x
      omega
    have nB : B ≠ [] := fun z => by
      have := nil_of (p := ptim B (Q1 g)) trQ_trim (.inl z) fun x => pev_tim
      rw [this] at lBg
      have : (ptim A (Q1 f)).length ≤ 0 := lBg
      omega
    have lB := List.length_pos_iff.mpr nB
    have ng : g ≠ [] := fun z => by
      have := nil_of (p := ptim B (Q1 g)) trQ_trim (.inr (by rw [z]; rfl)) fun x => pev_tim
      rw [this] at lBg
      have : (ptim A (Q1 f)).length ≤ 0 := lBg
      omega
    have lg := tim_len tB (tr1 h.tg) nB (q1_ne ng)
    rw [len1] at lg
    have lg0 := List.length_pos_iff.mpr ng
    have lBs := tim_len tB (tr1 h.ts) nB (q1_ne ns)
    rw [len1] at lBs
    have lAu : (ptim A (Q1 u)).length ≤ A.length + u.length - 1 := by
      have := tim_le tA (tr1 h.tu)
      rwa [len1] at this
    have := len_add (p := U) (s := ptim B (Q1 s)) (t := ptim A (Q1 u)) tU trQ_trim (by omega) fun x => by
      rw [pev_tim, pev_tim, eU x]
      grind
    omega
  subst A0
  have z0 : ∀ x, pev ([] : List Rat) x = 0 := fun x => rfl
  have eU' : ∀ x, pev U x = pev B x * pev (Q1 s) x := fun x => by rw [eU x, z0]; grind
  have eV' : ∀ x, pev V x = pev B x * pev (Q1 t) x := fun x => by rw [eV x, z0]; grind
  have ew' : ∀ x, pev w x = pev B x * pev (Q1 g) x := fun x => by rw [ew x, z0]; grind
  have nB : B ≠ [] := fun z => by
    rcases nz with nz | nz
    · exact nz (nil_of tU (.inl z) eU')
    · exact nz (nil_of tV (.inl z) eV')
  have lU' := len_tim tU tB (tr1 h.ts) nB (q1_ne ns) eU'
  rw [len1] at lU'
  have lB := List.length_pos_iff.mpr nB
  obtain ⟨k, rfl⟩ : ∃ k, B = [k] := List.length_eq_one_iff.mp (by omega)
  refine ⟨k, TrQ.last tB nB, fun x => ?_, fun x => ?_, fun x => ?_⟩
  · rw [ew' x, pev_one]
  · rw [eU' x, pev_one]
  · rw [eV' x, pev_one]
/-- the numbers of the later ones are small -/
theorem Sh.bt {a b f u v g s t : List Int} {h N : Nat} (x : Sh a b f u v g s t) (l : Shl b f u g s) (ba : ∀ i ∈ a, Bt h i) (bb : ∀ i ∈ b, Bt h i) (lf : f.length ≤ a.length) (cg : cont (g ++ s ++ t) = 1) (hN : N = a.length + b.length + 2 - 2 * f.length) (hN2 : N ≤ 64) : t.length ≤ a.length ∧ (∀ i ∈ g, Bt (N * (h + 7)) i) ∧ (∀ i ∈ s, Bt (N * (h + 7)) i) ∧ ∀ i ∈ t, Bt (N * (h + 7)) i := by
  have l1 := l.l1
  have l2 := l.l2
  have l3 := l.l3
  obtain ⟨U, V, w, lU, lV, nz, lw, ew, bw, bU, bV⟩ := small_combo (E := f.length - 1) (N := N) ba bb (by omega) (by omega) (by omega) hN2
  obtain ⟨k, k0, e1, e2, e3⟩ := x.small (U := trimQ (Q1 U)) (V := trimQ (Q1 V)) (w := trimQ (Q1 w)) l trQ_trim trQ_trim trQ_trim (Nat.le_trans trimZ_le (by rw [len1]; omega)) (Nat.lt_of_le_of_lt trimZ_le (by rw [len1]; omega))
    (by
      rcases nz with ⟨i, hi⟩ | ⟨i, hi⟩
      · exact .inl fun z => hi (zz z i)
      · exact .inr fun z => hi (zz z i)) fun x => by rw [pev_trim, pev_trim, pev_trim]; exact ew x
  clear nz
  have key : ∀ {w g : List Int}, (∀ x, pev (trimQ (Q1 w)) x = k * pev (Q1 g) x) → ∀ i, (ci w i : Rat) = k * (ci g i : Rat) := fun {w g} e i => by
    rw [← cfi, cf_of_pev (p := Q1 w) (q := psm k (Q1 g)) (fun x => by rw [pev_psm, ← e x, pev_trim]) i, cf_psm, cfi]
  have k1 := key e1
  have k2 := key e2
  have k3 := key e3
  obtain ⟨m, rfl⟩ := int_of_prim cg fun y hy => by
    rcases List.mem_append.mp hy with hy | hy
    · rcases List.mem_append.mp hy with hy | hy
      · obtain ⟨j, _, rfl⟩ := mem_ci hy
        exact ⟨_, k1 j⟩
      · obtain ⟨j, _, rfl⟩ := mem_ci hy
        exact ⟨_, k2 j⟩
    · obtain ⟨j, _, rfl⟩ := mem_ci hy
      exact ⟨_, k3 j⟩
  have m0 : m ≠ 0 := fun z => k0 (by rw [z]; rfl)
  have le : ∀ {w g : List Int}, (∀ i, (ci w i : Rat) = (m : Rat) * (ci g i : Rat)) → ∀ i, (ci g i).natAbs ≤ (ci w i).natAbs := fun {w g} e i => le_mulc m0 (by
    have := e i
    exact_mod_cast this)
  refine ⟨?_, fun i hi => ?_, fun i hi => ?_, fun i hi => ?_⟩
  · refine Nat.le_of_not_lt fun hl => ?_
    have z : ci V (t.length - 1) = 0 := ci_ge (by omega)
    have nt : t ≠ [] := fun z => by rw [z] at hl; exact absurd hl (Nat.not_lt_zero _)
    have := le k3 (t.length - 1)
    rw [z] at this
    have h0 := hd_ne x.tt nt
    unfold hd at h0
    have h1 := Int.natAbs_pos.mpr h0
    have h2 : (0 : Int).natAbs = 0 := rfl
    omega
  · obtain ⟨j, _, rfl⟩ := mem_ci hi
    exact (ci_bt bw : Bt (N * (h + 7)) (ci w j)).le (le k1 j)
  · obtain ⟨j, _, rfl⟩ := mem_ci hi
    exact (ci_bt bU : Bt (N * (h + 7)) (ci U j)).le (le k2 j)
  · obtain ⟨j, _, rfl⟩ := mem_ci hi
    exact (ci_bt bV : Bt (N * (h + 7)) (ci V j)).le (le k3 j)
end Ml
set_option Elab.async false
set_option linter.all false
set_option maxRecDepth 100000
set_option maxHeartbeats 400000
set_option exponentiation.threshold 20000
namespace Ml
open PySem L2 Inn Uv Sl
def rsh (κ : Int) (q f g : List Int) : List Int := trim (zipL (· + ·) (f.map fun i => κ * i) ((mulL q g).map fun i => -i))
theorem rsh_tr {κ : Int} {q f g : List Int} : TrI (rsh κ q f g) := trimZ_trimd
theorem rsh_ev {κ : Int} {q f g : List Int} (x : Rat) : pev (Q1 (rsh κ q f g)) x = (κ : Rat) * pev (Q1 f) x - pev (Q1 q) x * pev (Q1 g) x := by
  have e : (mulL q g).map (fun i => -i) = (mulL q g).map fun i => (-1) * i := List.map_congr_left fun i _ => by omega
  unfold rsh
  rw [pev_trimI, pI_add, pI_smul, e, pI_smul, pI_mul]
  have : (((-1 : Int) : Int) : Rat) = -1 := rfl
  rw [this]
  grind
theorem quo_of {R : List Int} {c : Nat} (hc : c ≠ 0) (hd : ∀ x ∈ R, (c : Int) ∣ x) (tr : TrI R) : TrI (R.map fun x => x / (c : Int)) ∧ ∀ x, pev (Q1 R) x = (c : Rat) * pev (Q1 (R.map fun x => x / (c : Int))) x := by
  constructor
  · intro x hx
    rw [List.getLast?_map] at hx
    cases e : R.getLast? with
    | none => rw [e] at hx; cases hx
    | some y =>
      rw [e] at hx
      have hx : y / (c : Int) = x := Option.some.inj hx
      have y0 := tr y e
      have hy := Int.mul_ediv_cancel' (hd y (List.mem_of_getLast? e))
      rw [hx] at hy
      show (x == 0) = false
      refine beq_eq_false_iff_ne.mpr fun z => ?_
      rw [z, Int.mul_zero] at hy
      rw [← hy] at y0
      exact absurd y0 (by decide)
  · intro x
    have e : R = (R.map fun x => x / (c : Int)).map fun x => (c : Int) * x := by
      rw [List.map_map]
      conv => lhs; rw [← List.map_id R]
      refine List.map_congr_left fun x hx => ?_
      exact (Int.mul_ediv_cancel' (hd x hx)).symm
    conv => lhs; rw [e]
    rw [pI_smul]
    rfl
/-- one round of the program -/
structure Nx (a b f u v g s t : List Int) (κ : Int) (q : List Int) (c : Nat) : Prop where
  c0 : c ≠ 0
  k0 : κ ≠ 0
  dv : ∀ x ∈ rsh κ q f g ++ rsh κ q u s ++ rsh κ q v t, (c : Int) ∣ x
  sh : Sh a b g s t ((rsh κ q f g).map fun x => x / (c : Int)) ((rsh κ q u s).map fun x => x / (c : Int)) ((rsh κ q v t).map fun x => x / (c : Int))
  cg : cont ((rsh κ q f g).map (fun x => x / (c : Int)) ++ (rsh κ q u s).map (fun x => x / (c : Int)) ++ (rsh κ q v t).map fun x => x / (c : Int)) = 1
  lg : (rsh κ q f g).length < g.length
  e0 : ∀ x, (c : Rat) * pev (Q1 ((rsh κ q f g).map fun x => x / (c : Int))) x = (κ : Rat) * pev (Q1 f) x - pev (Q1 q) x * pev (Q1 g) x
  e1 : ∀ x, (c : Rat) * pev (Q1 ((rsh κ q u s).map fun x => x / (c : Int))) x = (κ : Rat) * pev (Q1 u) x - pev (Q1 q) x * pev (Q1 s) x
theorem Sh.nx {a b f u v g s t : List Int} (h : Sh a b f u v g s t) (ng : g ≠ []) {F : Int × List Int × List Int} (eF : F = runD g (f.length + 1 - g.length) (1, [], f)) :
    Nx a b f u v g s t F.1 (trim F.2.1) (cont (rsh F.1 (trim F.2.1) f g ++ rsh F.1 (trim F.2.1) u s ++ rsh F.1 (trim F.2.1) v t)) := by
  have lg0 := List.length_pos_iff.mpr ng
  have hg0 : hd g ≠ 0 := hd_ne h.tg ng
  obtain ⟨h1, h2, h3⟩ := runD_sem hg0 (f.length + 1 - g.length) (1, [], f) f (fun h => by show f.length = _; omega) (fun i hi => ci_ge (by show f.length ≤ i; omega)) (show (1 : Int) ≠ 0 by decide) fun x => by
    show ((1 : Int) : Rat) * _ = _ * (0 : Rat) + _
    rw [show ((1 : Int) : Rat) = 1 from rfl]
    grind
  rw [← eF] at h1 h2 h3
  clear eF
  obtain ⟨κ, q0, y⟩ := F
  simp only at h1 h2 h3 ⊢
  have eq : ∀ x, pev (Q1 (trim q0)) x = pev (Q1 q0) x := fun x => pev_trimI
  generalize trim q0 = q at *
  have dvd : ∀ x ∈ rsh κ q f g ++ rsh κ q u s ++ rsh κ q v t, ((cont (rsh κ q f g ++ rsh κ q u s ++ rsh κ q v t) : Nat) : Int) ∣ x := cont_dvd
  have κ0 : (κ : Rat) ≠ 0 := by exact_mod_cast h1
  have c0 : cont (rsh κ q f g ++ rsh κ q u s ++ rsh κ q v t) ≠ 0 := fun z => by
    have az := cont_zero z
    have nil : ∀ {R : List Int}, TrI R → (∀ x ∈ R, x = 0) → R = [] := fun {R} tr hz => Classical.byContradiction fun n => hd_ne tr n (hz _ (mem_of_ci (hd_ne tr n)))
    have z1 := nil (R := rsh κ q u s) rsh_tr fun x hx => az x (List.mem_append_left _ (List.mem_append_right _ hx))
    have z2 := nil (R := rsh κ q v t) rsh_tr fun x hx => az x (List.mem_append_right _ hx)
    obtain ⟨c, c0, hc⟩ := h.dt
    have a1 := rsh_ev (κ := κ) (q := q) (f := u) (g := s) 0
    have a2 := rsh_ev (κ := κ) (q := q) (f := v) (g := t) 0
    rw [z1] at a1
    rw [z2] at a2
    have a1 : (0 : Rat) = _ := a1
    have a2 : (0 : Rat) = _ := a2
    have a3 := hc 0
    have : (κ : Rat) * c = 0 := by grind
    rcases Rat.mul_eq_zero.mp this with z | z
    · exact κ0 z
    · exact c0 z
  have ec : ∃ c, c = cont (rsh κ q f g ++ rsh κ q u s ++ rsh κ q v t) := ⟨_, rfl⟩
  obtain ⟨c, ec⟩ := ec
  have cq := cont_quo c0
  unfold quo at cq
  rw [← ec] at c0 dvd cq ⊢
  rw [List.map_append, List.map_append] at cq
  obtain ⟨t0, e0⟩ := quo_of c0 (fun x hx => dvd x (List.mem_append_left _ (List.mem_append_left _ hx))) (rsh_tr (κ := κ) (q := q) (f := f) (g := g))
  obtain ⟨t1, e1⟩ := quo_of c0 (fun x hx => dvd x (List.mem_append_left _ (List.mem_append_right _ hx))) (rsh_tr (κ := κ) (q := q) (f := u) (g := s))
  obtain ⟨t2, e2⟩ := quo_of c0 (fun x hx => dvd x (List.mem_append_right _ hx)) (rsh_tr (κ := κ) (q := q) (f := v) (g := t))
  have c0' : (c : Rat) ≠ 0 := by exact_mod_cast c0
  have i0 : ∀ x, (c : Rat) * pev (Q1 ((rsh κ q f g).map fun x => x / (c : Int))) x = (κ : Rat) * pev (Q1 f) x - pev (Q1 q) x * pev (Q1 g) x := fun x => by rw [← e0 x, rsh_ev]
  have i1 : ∀ x, (c : Rat) * pev (Q1 ((rsh κ q u s).map fun x => x / (c : Int))) x = (κ : Rat) * pev (Q1 u) x - pev (Q1 q) x * pev (Q1 s) x := fun x => by rw [← e1 x, rsh_ev]
  have i2 : ∀ x, (c : Rat) * pev (Q1 ((rsh κ q v t).map fun x => x / (c : Int))) x = (κ : Rat) * pev (Q1 v) x - pev (Q1 q) x * pev (Q1 t) x := fun x => by rw [← e2 x, rsh_ev]
  refine ⟨c0, h1, dvd, h.step κ0 c0' t0 t1 t2 i0 i1 i2, cq, ?_, i0, i1⟩
  have ex : ∀ i, ci (rsh κ q f g) i = ci y i := pI_ext fun x => by
    have := h3 x
    rw [rsh_ev, eq]
    grind
  refine Nat.lt_of_not_le fun hle => ?_
  have nt : rsh κ q f g ≠ [] := fun z => by rw [z] at hle; have : g.length ≤ 0 := hle; omega
  have top := hd_ne rsh_tr nt
  apply top
  unfold hd
  rw [ex]
  exact h2 _ (by omega)
end Ml
set_option Elab.async false
set_option linter.all false
set_option maxRecDepth 100000
set_option maxHeartbeats 400000
set_option exponentiation.threshold 20000
namespace Ml
open PySem L2 Inn Uv Sl
structure St (a b : List Int) (W : Nat) (f u v g s t : List Int) : Prop where
  sh : Sh a b f u v g s t
  b1 : ∀ i ∈ f, Bt W i
  b2 : ∀ i ∈ u, Bt W i
  b3 : ∀ i ∈ v, Bt W i
  b4 : ∀ i ∈ g, Bt W i
  b5 : ∀ i ∈ s, Bt W i
  b6 : ∀ i ∈ t, Bt W i
  l1 : f.length ≤ max a.length b.length
  l2 : u.length ≤ b.length + 1
  l3 : v.length ≤ a.length + 1
  l4 : g.length ≤ max a.length b.length
  l5 : s.length ≤ b.length + 1
  l6 : t.length ≤ a.length + 1
  at_ : (f = a ∧ u = [1] ∧ v = [] ∧ g = b ∧ s = [] ∧ t = [1]) ∨ (Shl b f u g s ∧ g.length ≤ a.length)
theorem ev1 (x : Rat) : pev (Q1 [1]) x = 1 := by
  show ((1 : Int) : Rat) / 1 + x * 0 = _
  grind
theorem len_map_ {α β : Type} {f : α → β} {l : List α} : (l.map f).length = l.length := List.length_map ..
theorem eq_of_ev {p q : List Int} (tp : TrI p) (tq : TrI q) (e : ∀ x, pev (Q1 p) x = pev (Q1 q) x) : p.length = q.length := by
  have := congrArg List.length (pev_ext (tr1 tp) (tr1 tq) e)
  rwa [len1, len1] at this
theorem bt_quo {R : List Int} {c k : Nat} (hd : ∀ x ∈ R, (c : Int) ∣ x) (hb : ∀ x ∈ R, Bt k x) : ∀ x ∈ R.map (fun x => x / (c : Int)), Bt k x := fun y hy => by
  obtain ⟨x, hx, rfl⟩ := List.mem_map.mp hy
  exact (hb x hx).le (by rw [Int.natAbs_ediv_of_dvd (hd x hx)]; exact Nat.div_le_self _ _)
theorem bt_ev {R S : List Int} {k : Nat} (e : ∀ x, pev (Q1 R) x = pev (Q1 S) x) (hb : ∀ x ∈ S, Bt k x) : ∀ x ∈ R, Bt k x := fun y hy => by
  obtain ⟨j, _, rfl⟩ := mem_ci hy
  rw [pI_ext e j]
  exact ci_bt hb
theorem St.next {a b f u v g s t : List Int} {h W : Nat} (x : St a b W f u v g s t) (ng : g ≠ []) (ba : ∀ i ∈ a, Bt h i) (bb : ∀ i ∈ b, Bt h i) (h0 : 0 < h) (hS : a.length + b.length ≤ 60) (hW : (a.length + b.length) * (h + 7) + h ≤ W)
    {F : Int × List Int × List Int} (eF : F = runD g (f.length + 1 - g.length) (1, [], f)) {c : Nat} (ec : c = cont (rsh F.1 (trim F.2.1) f g ++ rsh F.1 (trim F.2.1) u s ++ rsh F.1 (trim F.2.1) v t)) :
    St a b W g s t ((rsh F.1 (trim F.2.1) f g).map fun x => x / (c : Int)) ((rsh F.1 (trim F.2.1) u s).map fun x => x / (c : Int)) ((rsh F.1 (trim F.2.1) v t).map fun x => x / (c : Int)) := by
  have n := x.sh.nx ng eF
  rw [← ec] at n
  clear ec
  have κ0 : (F.1 : Rat) ≠ 0 := by exact_mod_cast n.k0
  have c0 : (c : Rat) ≠ 0 := by exact_mod_cast n.c0
  have lg0 := List.length_pos_iff.mpr ng
  have le : ∀ {m : Nat}, m ≤ a.length + b.length → m * (h + 7) ≤ W := fun {m} hm => by
    have := Nat.mul_le_mul_right (h + 7) hm
    omega
  have bits : ∀ l : Shl b g s ((rsh F.1 (trim F.2.1) f g).map fun x => x / (c : Int)) ((rsh F.1 (trim F.2.1) u s).map fun x => x / (c : Int)), g.length ≤ a.length → St a b W g s t ((rsh F.1 (trim F.2.1) f g).map fun x => x / (c : Int)) ((rsh F.1 (trim F.2.1) u s).map fun x => x / (c : Int)) ((rsh F.1 (trim F.2.1) v t).map fun x => x / (c : Int)) := fun l hl => by
    obtain ⟨q1, q2, q3, q4⟩ := n.sh.bt l ba bb hl n.cg rfl (by omega)
    have hN := le (m := a.length + b.length + 2 - 2 * g.length) (by omega)
    have l1 := l.l1
    have l3 := l.l3
    exact ⟨n.sh, x.b4, x.b5, x.b6, fun i hi => (q2 i hi).mono hN, fun i hi => (q3 i hi).mono hN, fun i hi => (q4 i hi).mono hN, x.l4, x.l5, x.l6, by have := x.l4; omega, by omega, by omega, .inr ⟨l, by omega⟩⟩
  rcases x.at_ with ⟨rfl, rfl, rfl, rfl, rfl, rfl⟩ | ⟨l, hl⟩
  · have z0 : ∀ x, pev (Q1 []) x = 0 := fun x => rfl
    have es : ∀ y, pev (Q1 ((rsh F.1 (trim F.2.1) [1] []).map fun x => x / (c : Int))) y = pev [(F.1 : Rat) / (c : Rat)] y := fun y => rcan c0 (by
      rw [n.e1 y, ev1, z0, pev_one]
      grind)
    have hne : (F.1 : Rat) / (c : Rat) ≠ 0 := fun z => κ0 (by
      have e : (F.1 : Rat) = c * ((F.1 : Rat) / (c : Rat)) := by
        generalize (F.1 : Rat) = k
        generalize (c : Rat) = d at *
        grind
      rw [e, z, Rat.mul_zero])
    have ls : ((rsh F.1 (trim F.2.1) [1] []).map fun x => x / (c : Int)).length = 1 := by
      have := congrArg List.length (pev_ext (tr1 n.sh.ts) (q := [(F.1 : Rat) / (c : Rat)]) (TrQ.mk fun _ => hne) es)
      rwa [len1] at this
    have l : Shl g g [] ((rsh F.1 (trim F.2.1) f g).map fun x => x / (c : Int)) ((rsh F.1 (trim F.2.1) [1] []).map fun x => x / (c : Int)) := ⟨by rw [len_map_]; exact n.lg, by rw [ls]; exact Nat.zero_lt_one, by rw [ls]; omega⟩
    by_cases hl : g.length ≤ f.length
    · exact bits l hl
    · have e0 : F = (1, [], f) := by rw [eF, show f.length + 1 - g.length = 0 by omega]; rfl
      have tn : trim [] = [] := rfl
      have hk : Bt h 1 := Bt.of 2 (by decide) (Nat.le_trans (by decide : 2 ≤ 2 ^ 1) (Nat.pow_le_pow_right (by decide) h0))
      subst e0
      simp only [tn] at n l ⊢
      have hz : ∀ y, pev (Q1 []) y = 0 := fun y => rfl
      have r0 : ∀ y, pev (Q1 (rsh 1 [] f g)) y = pev (Q1 f) y := fun y => by
        rw [rsh_ev, hz, show ((1 : Int) : Rat) = 1 from rfl]
        grind
      have r1 : ∀ y, pev (Q1 (rsh 1 [] [1] [])) y = pev (Q1 [1]) y := fun y => by
        rw [rsh_ev, hz, show ((1 : Int) : Rat) = 1 from rfl]
        grind
      have r2 : ∀ y, pev (Q1 (rsh 1 [] [] [1])) y = pev (Q1 []) y := fun y => by
        rw [rsh_ev, hz, show ((1 : Int) : Rat) = 1 from rfl]
        grind
      have w0 := bt_quo (fun x hx => n.dv x (List.mem_append_left _ (List.mem_append_left _ hx))) (bt_ev r0 ba)
      have w1 := bt_quo (fun x hx => n.dv x (List.mem_append_left _ (List.mem_append_right _ hx))) (bt_ev (k := h) r1 fun i hi => by cases List.mem_singleton.mp hi; exact hk)
      have w2 := bt_quo (fun x hx => n.dv x (List.mem_append_right _ hx)) (bt_ev (k := h) (S := []) r2 fun i hi => (List.not_mem_nil hi).elim)
      have q0 := eq_of_ev rsh_tr x.sh.tf r0
      have q2 := eq_of_ev rsh_tr (q := []) (fun _ h => nomatch h) r2
      have hw : h ≤ W := by omega
      exact ⟨n.sh, x.b4, x.b5, x.b6, fun i hi => (w0 i hi).mono hw, fun i hi => (w1 i hi).mono hw, fun i hi => (w2 i hi).mono hw, x.l4, x.l5, x.l6, by rw [len_map_, q0]; omega, by have := l.l3; omega, by rw [len_map_, q2]; exact Nat.zero_le _, .inr ⟨l, by rw [len_map_, q0]; exact Nat.le_refl _⟩⟩
  · exact bits (l.step κ0 c0 ng x.sh.tf x.sh.tg x.sh.tu x.sh.ts n.sh.tg n.sh.ts (q := Q1 (trim F.2.1)) (tr1 trimZ_trimd) n.e0 n.e1 (by rw [len_map_]; exact n.lg)) hl
end Ml
set_option Elab.async false
set_option linter.all false
set_option maxRecDepth 100000
set_option maxHeartbeats 400000
set_option exponentiation.threshold 20000
namespace Ml
open PySem L2 Inn Uv Sl
/-- what led_shares answers -/
structure Ls (a b : List Int) (W : Nat) (f u v : List Int) : Prop where
  tf : TrI f
  nf : f ≠ []
  ef : ∀ x, pev (Q1 f) x = pev (Q1 u) x * pev (Q1 a) x + pev (Q1 v) x * pev (Q1 b) x
  gp : ∀ d, (Dd d (Q1 a) ∧ Dd d (Q1 b)) ↔ Dd d (Q1 f)
  b1 : ∀ i ∈ f, Bt W i
  b2 : ∀ i ∈ u, Bt W i
  b3 : ∀ i ∈ v, Bt W i
  l1 : f.length ≤ max a.length b.length
  l2 : u.length ≤ b.length + 1
  l3 : v.length ≤ a.length + 1
  tu : TrI u
  tv : TrI v
  dg : (b = [] ∧ v = []) ∨ u.length + f.length ≤ b.length
theorem St.init {a b : List Int} {h W : Nat} (ta : TrI a) (tb : TrI b) (ba : ∀ i ∈ a, Bt h i) (bb : ∀ i ∈ b, Bt h i) (h0 : 0 < h) (hW : h ≤ W) : St a b W a [1] [] b [] [1] := by
  have hk : Bt W 1 := Bt.of 2 (by decide) (Nat.le_trans (by decide : 2 ≤ 2 ^ 1) (Nat.pow_le_pow_right (by decide) (by omega)))
  have h1 : ∀ i ∈ ([1] : List Int), Bt W i := fun i hi => by cases List.mem_singleton.mp hi; exact hk
  have n0 : ∀ i ∈ ([] : List Int), Bt W i := fun i hi => (List.not_mem_nil hi).elim
  exact ⟨Sh.init ta tb, fun i hi => (ba i hi).mono hW, h1, n0, fun i hi => (bb i hi).mono hW, n0, h1, Nat.le_max_left _ _, by simp, by simp, Nat.le_max_right _ _, by simp, by simp, .inl ⟨rfl, rfl, rfl, rfl, rfl, rfl⟩⟩
theorem St.fin {a b f u v s t : List Int} {W : Nat} (x : St a b W f u v [] s t) (nf : f ≠ []) : Ls a b W f u v := by
  obtain ⟨c, c0, hc⟩ := x.sh.dt
  have z0 : ∀ y, pev (Q1 []) y = 0 := fun y => rfl
  refine ⟨x.sh.tf, nf, x.sh.ef, fun d => ⟨fun ⟨⟨p, hp⟩, q, hq⟩ => ⟨padd (ptim (Q1 u) p) (ptim (Q1 v) q), fun y => ?_⟩, fun ⟨p, hp⟩ => ⟨⟨psm (1 / c) (ptim (Q1 t) p), fun y => ?_⟩, psm (-(1 / c)) (ptim (Q1 s) p), fun y => ?_⟩⟩, x.b1, x.b2, x.b3, x.l1, x.l2, x.l3, x.sh.tu, x.sh.tv, ?_⟩
  · rw [x.sh.ef, hp, hq, pev_padd, pev_tim, pev_tim]
    grind
  · rw [pev_psm, pev_tim]
    have e1 := x.sh.ef y
    have e2 := x.sh.eg y
    have e3 := hc y
    rw [z0] at e2
    rw [hp] at e1
    refine rcan c0 ?_
    have ic : c * (1 / c) = 1 := by grind
    grind
  · rw [pev_psm, pev_tim]
    have e1 := x.sh.ef y
    have e2 := x.sh.eg y
    have e3 := hc y
    rw [z0] at e2
    rw [hp] at e1
    refine rcan c0 ?_
    have ic : c * (1 / c) = 1 := by grind
    grind
  · rcases x.at_ with ⟨_, _, e1, e2, _⟩ | ⟨l, _⟩
    · exact .inl ⟨e2.symm, e1⟩
    · have := l.l2
      have := l.l3
      exact .inr (by omega)
end Ml
set_option Elab.async false
set_option linter.all false
set_option maxRecDepth 100000
set_option maxHeartbeats 400000
set_option exponentiation.threshold 20000
namespace Ml
open PySem L2 Inn Uv Sl
/-- shares: both halves, which make the common part -/
structure Sr (p q X u v : List Rat) (N W : Nat) : Prop where
  ev : ∀ x, pev (mon X) x = pev u x * pev p x + pev v x * pev q x
  pu : Pl N W u
  pv : Pl N W v
  tu : TrQ u
  tv : TrQ v
  dg : (trimQ q = [] ∧ v = []) ∨ u.length + X.length ≤ (trimQ q).length
end Ml
set_option Elab.async false
set_option linter.all false
set_option maxRecDepth 100000
set_option maxHeartbeats 400000
set_option exponentiation.threshold 20000
namespace Ml
open PySem L2 Inn Uv Sl
/-! ### ints under == -/
end Ml
set_option Elab.async false
set_option linter.all false
set_option maxRecDepth 100000
set_option maxHeartbeats 400000
set_option exponentiation.threshold 20000
namespace Ml
open PySem L2 Inn Uv Sl
end Ml
set_option Elab.async false
set_option linter.all false
set_option maxRecDepth 100000
set_option maxHeartbeats 1000000
set_option exponentiation.threshold 20000
namespace Ml
open PySem L2 Inn Uv Sl
end Ml
set_option Elab.async false
set_option linter.all false
set_option maxRecDepth 100000
set_option maxHeartbeats 1000000
set_option exponentiation.threshold 20000
namespace Ml
open PySem L2 Inn Uv Sl
/-! ### law_k42: its own polynomials -/
/-- a product of the law over one bottom -/
theorem m_ltimes42 {p q : List Rat} {a b N k0 N' k1 : Nat} {R : D → Prop} (hp : Pl N k0 p) (hq : Pl N' k1 q) (n0 : N ≠ 0) (n1 : N' ≠ 0) (hN : N < 2 ^ a) (hN' : N' < 2 ^ b) (hk : k0 ≤ a) (hk' : k1 ≤ b) (ha : 0 < a) (hb : 0 < b) (l1 : p.length ≤ 500) (l2 : q.length ≤ 500) (hab : 2 * (a + b) + p.length * q.length + 1 ≤ 7000) (h : R (encPP (ptim p q))) : s_law_times_k42 [encPP p, encPP q] R := by
  unfold s_law_times_k42
  rfl'
  rw [List.length_map, List.length_map, enum_P, enum_P]
  have em : (if ((p.length : Nat) : Int) + ((q.length : Nat) : Int) - 1 > 0 then ((p.length : Nat) : Int) + ((q.length : Nat) : Int) - 1 else 0) = ((p.length + q.length - 1 : Nat) : Int) := by split <;> omega
  rw [em, Int.toNat_natCast]
  refine ⟨sz, sz, ⟨by omega, by omega, sz (by omega)⟩, ?_⟩
  have e0 : (List.replicate (p.length + q.length - 1) [D.tup [.int 0, .int 1]]).flatten = (List.replicate (p.length + q.length - 1) (0 : Rat)).map encP := by
    rw [List.flatten_replicate_singleton, List.map_replicate]
    rfl
  rw [e0]
  have cz : ∀ n k, cf (List.replicate n (0 : Rat)) k = 0 := by
    intro n k
    unfold cf
    rw [List.getElem?_replicate]
    split <;> rfl
  refine forC_map (fun ys s => ∃ vals : List Rat, s = vals.map encP ∧ vals.length = p.length + q.length - 1 ∧ (∀ k, cf vals k = rows p q ys.length k) ∧ Pl (N * N') (k0 + k1 + ys.length * q.length) vals) _ p.zipIdx ⟨_, rfl, List.length_replicate, fun k => cz _ k, ?_⟩ ?_ ?_
  · intro x hx
    rw [(List.mem_replicate.mp hx).2]
    exact ⟨0, by rw [Rat.intCast_zero]; grind, Bt.zero⟩
  · rintro ys ⟨c, i⟩ zs s nx e ⟨vals, rfl, lv, hv, hh⟩ hn
    obtain ⟨ei, ec⟩ := enum_at e
    dsimp only at ei ec
    have li := (List.getElem?_eq_some_iff.mp ec).1
    rw [← ei] at hv hh ec li
    have ec2 := cf_get ec
    rfl'
    refine forC_map (fun ys' s => ∃ vals : List Rat, s = vals.map encP ∧ vals.length = p.length + q.length - 1 ∧ (∀ k, cf vals k = rows p q i k + if k < i + ys'.length then row p q i k else 0) ∧ Pl (N * N') (k0 + k1 + (i * q.length + ys'.length)) vals) _ q.zipIdx ⟨vals, rfl, lv, fun k => ?_, ?_⟩ ?_ ?_
    · rw [hv k]
      show _ = _ + if k < i + 0 then row p q i k else 0
      by_cases hk : k < i
      · unfold row
        rw [if_pos (by omega), if_neg (by omega), Rat.add_zero]
      · rw [if_neg (by omega), Rat.add_zero]
    · exact hh
    · rintro ys' ⟨d, j⟩ zs' s nx' e' ⟨vals', rfl, lv', hv', hh'⟩ hn'
      obtain ⟨ej, ed⟩ := enum_at e'
      dsimp only at ej ed
      have lj := (List.getElem?_eq_some_iff.mp ed).1
      rw [← ej] at hv' hh' ed lj
      have ed2 := cf_get ed
      have lij : i + j < vals'.length := by omega
      have b1 : i * q.length + j + 1 ≤ p.length * q.length := by
        have : (i + 1) * q.length ≤ p.length * q.length := Nat.mul_le_mul_right _ li
        rw [Nat.add_mul] at this
        omega
      have mc := (hp.hs n0 hN hk) c (List.mem_of_getElem? ec)
      have md := (hq.hs n1 hN' hk') d (List.mem_of_getElem? ed)
      have mv : Hs (a + b + p.length * q.length) vals' := hh'.hs (Nat.mul_ne_zero n0 n1) (Nat.lt_of_lt_of_le (Nat.mul_lt_mul'' hN hN') (by rw [← Nat.pow_add]; exact Nat.pow_le_pow_right (by decide) (by omega))) (by omega)
      rfl'
      refine ⟨_, atI_of (j := i + j) (by omega) (iQ_get (cf_lt lij)), ?_⟩
      refine m_lby mc md (by omega) ?_
      refine m_lplus (mv.cf (by omega)) (mc.mul md) (by omega) ?_
      rfl'
      refine ⟨i + j, ?_, hn' _ ⟨vals'.set (i + j) (cf vals' (i + j) + c * d), ?_, ?_, ?_, ?_⟩⟩
      · rw [List.length_map]
        exact ixN_nat lij
      · rw [List.map_set]
      · rw [List.length_set]
        exact lv'
      · intro k
        rw [cf_set lij, List.length_append, List.length_singleton, ← ej]
        by_cases hk : k = i + j
        · subst hk
          rw [if_pos rfl, hv', if_neg (by omega), if_pos (by omega), Rat.add_zero]
          unfold row
          rw [if_pos (by omega), ec2, show i + j - i = j by omega, ed2]
        · rw [if_neg hk, hv']
          by_cases hk2 : k < i + j
          · rw [if_pos hk2, if_pos (by omega)]
          · rw [if_neg hk2, if_neg (by omega)]
      · rw [List.length_append, List.length_singleton, ← ej]
        intro x hx
        rcases List.mem_or_eq_of_mem_set hx with h1 | h1
        · exact (hh'.mono (by omega)) x h1
        · rw [h1]
          obtain ⟨s1, e1, q1⟩ := hh' _ (List.mem_of_getElem? (cf_lt lij))
          obtain ⟨s2, e2, q2⟩ := hp c (List.mem_of_getElem? ec)
          obtain ⟨s3, e3, q3⟩ := hq d (List.mem_of_getElem? ed)
          refine ⟨s1 + s2 * s3, ?_, (q1.add ((q2.mul q3).mono (by omega))).mono (by omega)⟩
          rw [e1, e2, e3, Rat.intCast_add, Rat.intCast_mul, Rat.natCast_mul]
          simp only [Rat.div_def, Rat.inv_mul_rev]
          grind
    · rintro s ⟨vals', rfl, lv', hv', hh'⟩
      rw [List.length_zipIdx] at hv' hh'
      refine hn _ ⟨vals', rfl, lv', fun k => ?_, ?_⟩
      · rw [List.length_append, List.length_singleton, ← ei, rows_s, hv' k]
        by_cases hk : k < i + q.length
        · rw [if_pos hk]
        · rw [if_neg hk]
          unfold row
          rw [if_pos (by omega), cf_ge (p := q) (by omega), Rat.mul_zero]
      · rw [List.length_append, List.length_singleton, ← ei, Nat.add_mul i 1, Nat.one_mul]
        exact hh'
  · rintro s ⟨vals, rfl, lv, hv, hh⟩
    rw [List.length_zipIdx] at hv
    rfl'
    refine m_ltrim41 (by omega) ?_
    have e : trimQ vals = ptim p q := trim_congr fun k => by rw [hv k, rows_all, cf_pmul]
    rw [e]
    exact h
theorem zeros_P {n : Nat} : (List.replicate n [D.tup [.int 0, .int 1]]).flatten = (List.replicate n (0 : Rat)).map encP := by
  rw [List.flatten_replicate_singleton, List.map_replicate]
  rfl
theorem m_lscaled42 {p : List Rat} {c : Rat} {a b : Nat} {R : D → Prop} (hp : Hs a p) (hc : Ht b c) (hab : a + b ≤ 900000) (hq : ∀ q ∈ p, Ht 4490 (q * c)) (l1 : p.length ≤ 1000) (h : R (encPP (psm c p))) : s_law_scaled_k42 [encPP p, encP c] R := by
  unfold s_law_scaled_k42
  rfl'
  refine ⟨by rw [List.length_map]; exact sz (by omega), mapD_map (φ := fun q => encP (c * q)) (fun q hq' R' h' => ?_) ?_⟩
  · rfl'
    refine m_lby2 (hp q hq') hc hab (hq q hq') ?_
    rw [Rat.mul_comm]
    exact h'
  · have e : D.lst (p.map fun q => encP (c * q)) = encPP (p.map fun q => c * q) := by
      show _ = D.lst (List.map _ (List.map _ _))
      rw [List.map_map]
      rfl
    rw [e]
    exact m_ltrim41 (by rw [List.length_map]; exact l1) h
theorem cf_zip {p q P Q : List Rat} (hl : P.length = Q.length) (h : ∀ {k}, cf P k = cf p k) (h' : ∀ {k}, cf Q k = cf q k) : trimQ ((P.zip Q).map fun x : Rat × Rat => x.1 + x.2) = padd p q := trim_congr fun k => by
  rw [cf_add, ← h, ← h']
  by_cases hk : k < P.length
  · have hk' : k < Q.length := by omega
    unfold cf
    rw [List.getElem?_map, (List.getElem?_zip_eq_some (z := (P[k], Q[k]))).mpr ⟨List.getElem?_eq_getElem hk, List.getElem?_eq_getElem hk'⟩, List.getElem?_eq_getElem hk, List.getElem?_eq_getElem hk']
    rfl
  · rw [cf_ge (p := P) (by omega), cf_ge (p := Q) (by omega), cf_ge (by rw [List.length_map, List.length_zip]; omega), Rat.add_zero]
theorem m_lplus42 {p q : List Rat} {a b : Nat} {R : D → Prop} (hp : Hs a p) (hq : Hs b q) (ha : 0 < a) (hb : 0 < b) (hab : a + b ≤ 8000) (l1 : p.length ≤ 1000) (l2 : q.length ≤ 1000) (h : R (encPP (padd p q))) : s_law_plus_k42 [encPP p, encPP q] R := by
  unfold s_law_plus_k42
  rfl'
  rw [List.length_map, List.length_map]
  have em : (if ((q.length : Nat) : Int) > ((p.length : Nat) : Int) then ((q.length : Nat) : Int) else ((p.length : Nat) : Int)) = ((max p.length q.length : Nat) : Int) := by split <;> omega
  have e1 : ((max p.length q.length : Nat) : Int) - ((p.length : Nat) : Int) = ((max p.length q.length - p.length : Nat) : Int) := by omega
  have e2 : ((max p.length q.length : Nat) : Int) - ((q.length : Nat) : Int) = ((max p.length q.length - q.length : Nat) : Int) := by omega
  rw [em, e1, e2, Int.toNat_natCast, Int.toNat_natCast, zeros_P, zeros_P, ← List.map_append, ← List.map_append]
  have ez : ∀ {l m : List Rat}, ((l.map encP).zip (m.map encP)).map (fun x => D.tup [x.1, x.2]) = (l.zip m).map fun x => D.tup [encP x.1, encP x.2] := by
    intro l m
    rw [List.zip_map, List.map_map]
    rfl
  rw [ez]
  have hp' : Hs a (p ++ List.replicate (max p.length q.length - p.length) 0) := fun x hx => (List.mem_append.mp hx).elim (hp x) fun h1 => by
    rw [(List.mem_replicate.mp h1).2]
    exact ht0 ha
  have hq' : Hs b (q ++ List.replicate (max p.length q.length - q.length) 0) := fun x hx => (List.mem_append.mp hx).elim (hq x) fun h1 => by
    rw [(List.mem_replicate.mp h1).2]
    exact ht0 hb
  have eP : padd p q = trimQ (((p ++ List.replicate (max p.length q.length - p.length) 0).zip (q ++ List.replicate (max p.length q.length - q.length) 0)).map fun x : Rat × Rat => x.1 + x.2) := (cf_zip (by simp; omega) cf_app0 cf_app0).symm
  rw [eP] at h
  generalize hP : p ++ List.replicate (max p.length q.length - p.length) 0 = P at *
  generalize hQ : q ++ List.replicate (max p.length q.length - q.length) 0 = Q at *
  refine ⟨sz, sz, ⟨by omega, by omega, sz (by omega)⟩, by simp; exact sz (by omega), sz, sz, ⟨by omega, by omega, sz (by omega)⟩, by simp; exact sz (by omega), ?_, mapD_map (φ := fun x : Rat × Rat => encP (x.1 + x.2)) (fun x hx R' h' => ?_) ?_⟩
  · rw [List.length_map, List.length_zip, ← hP, ← hQ]
    simp
    exact sz (by omega)
  · exact m_lplus (hp' _ (List.of_mem_zip hx).1) (hq' _ (List.of_mem_zip hx).2) (by omega) h'
  · have e3 : (P.zip Q).map (fun x : Rat × Rat => encP (x.1 + x.2)) = ((P.zip Q).map fun x : Rat × Rat => x.1 + x.2).map encP := by rw [List.map_map]; rfl
    rw [e3]
    refine m_ltrim41 ?_ h
    rw [List.length_map, List.length_zip, ← hP, ← hQ]
    simp
    omega
theorem neg_P {t : Rat} : D.tup [.int (0 - t.num), .int (t.den : Nat)] = encP (-t) := by
  show _ = D.tup [.int (-t).num, .int ((-t).den : Nat)]
  rw [Rat.neg_num, Rat.neg_den, Int.zero_sub]
theorem Ht.neg {k : Nat} {t : Rat} (h : Ht k t) : Ht k (-t) := ⟨by rw [Rat.neg_num]; exact h.n.neg, by rw [Rat.neg_den]; exact h.d⟩
theorem add_neg {r l : List Rat} {n : Nat} {t : Rat} : padd r (List.replicate n 0 ++ psm (-t) l) = psub r (List.replicate n 0 ++ psm t l) := trim_congr fun k => by
  rw [cf_add, cf_add]
  have e : cf ((List.replicate n 0 ++ psm t l).map fun x => -x) k = -cf (List.replicate n 0 ++ psm t l) k := cf_neg
  rw [e]
  congr 1
  unfold cf
  by_cases h : k < n
  · rw [List.getElem?_append_left (by simpa using h), List.getElem?_append_left (by simpa using h), List.getElem?_replicate, if_pos h]
    rfl
  · rw [List.getElem?_append_right (by simpa using h), List.getElem?_append_right (by simpa using h)]
    show cf _ _ = -cf _ _
    rw [cf_psm, cf_psm, Rat.neg_mul]
theorem m_ldivided42 {c c' : Rat} {f g : List Int} {B e e' E QH : Nat} {R : D → Prop} (hc : c ≠ 0) (hc' : c' ≠ 0) (ec : Ht e c) (ec' : Ht e' c') (tf : TrI f) (tg : TrI g) (ng : g ≠ []) (bf : ∀ i ∈ f, Bt B i) (bg : ∀ i ∈ g, Bt B i) (hB : 0 < B) (lf : f.length ≤ 40) (lg : g.length ≤ 40)
    (hE : e + (f.length + 1 - g.length + 1) * (B + 1) ≤ E) (hE2 : E ≤ 3990) (hQ : E + (e' + B) = QH) (hQ2 : QH ≤ 8000) (h : ∀ u r, Qr c c' f g B QH u r → R (.tup [encPP u, encPP r])) : s_law_divided [encPP (scl c f), encPP (scl c' g)] R := by
  have lg0 := List.length_pos_iff.mpr ng
  have g0 : hd g ≠ 0 := hd_ne tg ng
  unfold s_law_divided
  unfold parO2M
  rfl'
  rw [List.length_map, List.length_map, scl_len, scl_len]
  have em : (if ((f.length : Nat) : Int) - ((g.length : Nat) : Int) + 1 > 0 then ((f.length : Nat) : Int) - ((g.length : Nat) : Int) + 1 else 0) = ((f.length + 1 - g.length : Nat) : Int) := by split <;> omega
  rw [em, Int.toNat_natCast]
  refine ⟨sz, sz, ⟨by omega, by omega, sz (by omega)⟩, ?_⟩
  have e0 : (List.replicate (f.length + 1 - g.length) [D.tup [.int 0, .int 1]]).flatten = (List.replicate (f.length + 1 - g.length) (0 : Rat)).map encP := by
    rw [List.flatten_replicate_singleton, List.map_replicate]
    rfl
  rw [e0]
  have cz : ∀ n k, cf (List.replicate n (0 : Rat)) k = 0 := by
    intro n k
    unfold cf
    rw [List.getElem?_replicate]
    split <;> rfl
  have B1 : B + 1 ≤ (f.length + 1 - g.length + 1) * (B + 1) := Nat.le_mul_of_pos_left _ (by omega)
  have ho : Hs (e' + B) (scl c' g) := ht_scl ec' bg hB
  refine whC_ind (fun s : List D × D => ∃ r vals : List Rat, s = (vals.map encP, encPP r) ∧ Pk c c' f g B (f.length + 1 - g.length) QH r vals) (fun s : List D × D => match s.2 with | .lst l => l.length | _ => 0) _ ⟨scl c f, _, rfl, ⟨scl_tr hc tf, ⟨0, 1, f, by rw [scl_len]; omega, Nat.zero_le _, by decide, fun i => ?_, fun i hi => (bf i hi).mono (by omega), ?_, fun _ => rfl⟩, fun x => ?_, fun i _ => cz _ i, List.length_replicate, fun q hq => ?_⟩⟩ ?_
  · rw [cf_scl]
    show _ = _ / (1 : Rat)
    grind
  · exact Bt.of 2 (by decide) (Nat.le_trans (by decide : 2 ≤ 2 ^ 1) (Nat.pow_le_pow_right (by decide) (by omega)))
  · rw [pev_zero fun k => cz _ k]
    grind
  · rw [(List.mem_replicate.mp hq).2]
    exact ht0 (by omega)
  rintro s nx ⟨r, vals, rfl, pk⟩ hn
  obtain ⟨j, pw, y, hj, jK, p0, hy, by_, bp, j0⟩ := pk.ex
  rfl'
  rw [List.length_map, List.length_map, scl_len]
  by_cases hl : g.length ≤ r.length
  · have e1 : decide (((g.length : Nat) : Int) ≤ ((r.length : Nat) : Int)) = true := decide_eq_true (by omega)
    rw [e1]
    rfl'
    have jE : e + (j + 1 + 1) * (B + 1) ≤ E := by
      have := Nat.mul_le_mul_right (B + 1) (show j + 1 + 1 ≤ f.length + 1 - g.length + 1 by omega)
      omega
    have e2 : (j + 1 + 1) * (B + 1) = (j + 1) * (B + 1) + B + 1 := by rw [Nat.succ_mul]; omega
    have hr : Hs E r := fun q hq => by
      obtain ⟨i, hi, rfl⟩ := List.getElem_of_mem hq
      have : cf r i = r[i] := cf_get (List.getElem?_eq_getElem hi)
      rw [← this, hy]
      exact (frac_ht ec p0 (ci_bt by_) bp).mono (by omega)
    have c0 : cf (scl c' g) (g.length - 1) ≠ 0 := by
      rw [cf_scl]
      have gR : (hd g : Rat) ≠ 0 := by exact_mod_cast g0
      exact fun z => (Rat.mul_eq_zero.mp z).elim hc' gR
    have e3 : ((r.length : Nat) : Int) - ((g.length : Nat) : Int) = ((r.length - g.length : Nat) : Int) := by omega
    have hrt := hr.cf (i := r.length - 1) (by omega)
    have hot := ho.cf (i := g.length - 1) (by omega)
    have hT : Ht QH (cf r (r.length - 1) / cf (scl c' g) (g.length - 1)) := (hrt.div hot c0).mono (by omega)
    refine ⟨_, iP_last (by omega), _, iP_last (by rw [scl_len]; omega), ?_⟩
    rw [scl_len]
    refine m_lover hrt hot c0 (by omega) ?_
    rw [e3]
    rfl'
    have sv : r.length - g.length < vals.length := by rw [pk.vl]; omega
    refine ⟨r.length - g.length, by rw [List.length_map]; exact ixN_nat sv, ?_⟩
    have ⟨st, sl⟩ := pk.step (e := e) (e' := e') hc hc' ec ec' tf tg ng bg hB hl rfl hT
    generalize ht : cf r (r.length - 1) / cf (scl c' g) (g.length - 1) = t at *
    rw [← List.map_set]
    refine ⟨sz, sz, ⟨by omega, by omega, sz (by omega)⟩, .int t.num, rfl, ?_⟩
    rfl'
    refine ⟨.int (t.den : Nat), rfl, sz, ?_⟩
    rw [show D.tup [.int (0 - t.num), .int (t.den : Nat)] = encP (-t) from neg_P]
    have qt : ∀ q ∈ scl c' g, Ht E (q * t) := fun q hq => by
      obtain ⟨x, hx, rfl⟩ := List.mem_map.mp hq
      obtain ⟨i, hi, rfl⟩ := List.mem_map.mp hx
      have e5 : (c' * (((i : Int) : Rat) / ((1 : Nat) : Rat))) * t = c * ((ci y (r.length - 1) * i : Int) : Rat) / ((pw * hd g : Int) : Rat) := by
        rw [← ht, hy, cf_scl, Rat.intCast_mul, Rat.intCast_mul]
        have gR : (hd g : Rat) ≠ 0 := by exact_mod_cast g0
        have pR : (pw : Rat) ≠ 0 := by exact_mod_cast p0
        have := Rat.mul_inv_cancel _ gR
        have := Rat.mul_inv_cancel _ pR
        have := Rat.mul_inv_cancel _ hc'
        show (c' * ((i : Rat) / 1)) * (c * _ / _ / (c' * (hd g : Rat))) = _
        simp only [Rat.div_def, Rat.inv_mul_rev]
        grind
      rw [e5]
      have b1 : Bt ((j + 1) * (B + 1) + B) (ci y (r.length - 1) * i) := (ci_bt by_ : Bt ((j + 1) * (B + 1)) (ci y (r.length - 1))).mul (bg i hi)
      have b2 : Bt ((j + 1) * (B + 1) + B) (pw * hd g) := bp.mul (ci_bt bg : Bt B (hd g))
      exact (frac_ht ec (Int.mul_ne_zero p0 g0) b1 b2).mono (by omega)
    refine m_lscaled42 ho hT.neg (by omega) (fun q hq => by rw [Rat.mul_neg]; exact ((qt q hq).mono (by omega)).neg) (by rw [scl_len]; omega) ?_
    have hX : Hs E (List.replicate (r.length - g.length) 0 ++ psm (-t) (scl c' g)) := fun q hq => by
      rcases List.mem_append.mp hq with h1 | h1
      · rw [(List.mem_replicate.mp h1).2]
        exact ht0 (by omega)
      · obtain ⟨x, hx, rfl⟩ := List.mem_map.mp (mem_trimZ h1)
        show Ht E (-t * x)
        rw [Rat.neg_mul, Rat.mul_comm]
        exact (qt x hx).neg
    have lps : (psm (-t) (scl c' g)).length ≤ g.length := by
      have := psm_le1 (c := -t) (p := scl c' g)
      rwa [scl_len] at this
    rfl'
    have e6 : (List.replicate (r.length - g.length) [D.tup [.int 0, .int 1]]).flatten = (List.replicate (r.length - g.length) (0 : Rat)).map encP := by
      rw [List.flatten_replicate_singleton, List.map_replicate]
      rfl
    rw [Int.toNat_natCast, e6, List.length_map, List.length_map, List.length_replicate]
    refine ⟨sz (by omega), ?_⟩
    rw [← List.map_append]
    refine m_lplus42 hr hX (by omega) (by omega) (by omega) (by omega) (by rw [List.length_append, List.length_replicate]; omega) ?_
    rw [add_neg]
    refine hn _ ⟨_, _, rfl, st⟩ ?_
    show ((psub r _).map encP).length < (r.map encP).length
    rw [List.length_map, List.length_map]
    exact sl
  · have e1 : decide (((g.length : Nat) : Int) ≤ ((r.length : Nat) : Int)) = false := decide_eq_false (by omega)
    rw [e1]
    rfl'
    refine m_ltrim41 (by rw [pk.vl]; omega) ⟨sz, h _ _ ⟨trQ_trim, pk.t, by omega, fun x => ?_, ⟨pw, y, p0, hy, fun i hi => (by_ i hi).mono (Nat.mul_le_mul_right _ (by omega)), bp.mono (Nat.mul_le_mul_right _ (by omega)), fun hlt => j0 (by omega)⟩, fun q hq => pk.vh q (mem_trimZ hq), Nat.le_trans trimZ_le (Nat.le_of_eq pk.vl)⟩⟩
    rw [pev_trim]
    exact pk.id x
end Ml
set_option Elab.async false
set_option linter.all false
set_option maxRecDepth 100000
set_option maxHeartbeats 400000
set_option exponentiation.threshold 20000
namespace Ml
open PySem L2 Inn Uv Sl
/-! ### dividing, common parts as combinations -/
/-- nothing in common -/
def Cop (p q : List Rat) : Prop := ∃ s t : List Rat, ∀ x, pev s x * pev p x + pev t x * pev q x = 1
theorem Cop.d {p q : List Rat} (h : Cop p q) {d : List Rat} (h1 : Dd d p) (h2 : Dd d q) : Dd d [1] := by
  obtain ⟨s, t, e⟩ := h
  obtain ⟨u, hu⟩ := h1
  obtain ⟨v, hv⟩ := h2
  refine ⟨zipL (· + ·) (ptim s u) (ptim t v), fun x => ?_⟩
  have := e x
  rw [pev_one, pev_add, pev_tim, pev_tim, ← this, hu, hv]
  grind
theorem Cop.symm {p q : List Rat} (h : Cop p q) : Cop q p := by
  obtain ⟨s, t, e⟩ := h
  exact ⟨t, s, fun x => by rw [← e x]; grind⟩
theorem Cop.mul {p q r w : List Rat} (h : Cop p q) (h' : Cop p r) (e : ∀ x, pev w x = pev q x * pev r x) : Cop p w := by
  obtain ⟨s, t, e1⟩ := h
  obtain ⟨s', t', e2⟩ := h'
  refine ⟨zipL (· + ·) (ptim s (zipL (· + ·) (ptim s' p) (ptim t' r))) (ptim s' (ptim t q)), ptim t t', fun x => ?_⟩
  have h1 := e1 x
  have h2 := e2 x
  rw [pev_add, pev_tim, pev_add, pev_tim, pev_tim, pev_tim, pev_tim, pev_tim, e]
  have : (pev s x * pev p x + pev t x * pev q x) * (pev s' x * pev p x + pev t' x * pev r x) = 1 := by rw [h1, h2]; grind
  grind
theorem Cop.ev {p q p' q' : List Rat} (h : Cop p q) (e1 : ∀ x, pev p x = pev p' x) (e2 : ∀ x, pev q x = pev q' x) : Cop p' q' := by
  obtain ⟨s, t, e⟩ := h
  exact ⟨s, t, fun x => by rw [← e1, ← e2]; exact e x⟩
end Ml
set_option Elab.async false
set_option linter.all false
set_option maxRecDepth 100000
set_option maxHeartbeats 400000
set_option exponentiation.threshold 20000
namespace Ml
open PySem L2 Inn Uv Sl
/-! ### fractions in lowest terms -/
theorem zero_of2 {A B : List Rat} (tB : TrQ B) (nB : B ≠ []) (e : ∀ x, pev A x * pev B x = 0) : ∀ x, pev A x = 0 := fun x => by
  have hz : trimQ A = [] := Classical.byContradiction fun nA => by
    have l := tim_len trQ_trim tB nA nB
    have : ptim (trimQ A) B = [] := pev_ext trQ_trim (fun a e => nomatch e) fun x => by
      rw [pev_tim, pev_trim, e x]
      rfl
    rw [this] at l
    have h1 := List.length_pos_iff.mpr nA
    have h2 := List.length_pos_iff.mpr nB
    have l : 0 = (trimQ A).length + B.length - 1 := l
    omega
  rw [← pev_trim, hz]
  rfl
theorem q1_inj2 : ∀ {a b : List Int}, Q1 a = Q1 b → a = b
  | [], [], _ => rfl
  | [], _ :: _, h => nomatch h
  | _ :: _, [], h => nomatch h
  | x :: a, y :: b, h => by
    injection h with h1 h2
    have h1 : (x : Rat) / ((1 : Nat) : Rat) = (y : Rat) / ((1 : Nat) : Rat) := h1
    have : (x : Rat) = (y : Rat) := by grind
    rw [Rat.intCast_inj.mp this, q1_inj2 h2]
/-- a fraction as the program keeps it -/
structure Cn2 (t u : List Int) : Prop where
  tt : TrI t
  tu : TrI u
  nu : u ≠ []
  cp : Cop (Q1 t) (Q1 u)
  c : cont (t ++ u) = 1
  h : 0 < hd u
end Ml
set_option Elab.async false
set_option linter.all false
set_option maxRecDepth 100000
set_option maxHeartbeats 400000
set_option exponentiation.threshold 20000
namespace Ml
open PySem L2 Inn Uv Sl
/-! ### forms: a polynomial with the head 1, and noughts behind -/
structure Mo (P : List Rat) : Prop where
  t : TrQ P
  n : P ≠ []
  h : cf P (P.length - 1) = 1
abbrev zf (f : List Rat) : Nat := f.length - (trimQ f).length
abbrev pf (f : List Rat) : List Rat := mon (trimQ f)
abbrev z0 (n : Nat) : List Rat := List.replicate n 0
theorem mon_map {F : List Rat} (t : TrQ F) (n : F ≠ []) : mon F = F.map fun q => q / cf F (F.length - 1) := by
  have l0 := t.last n
  unfold mon psm
  have e : F.map (fun x => 1 / cf F (F.length - 1) * x) = F.map fun q => q / cf F (F.length - 1) := List.map_congr_left fun q _ => by grind
  rw [e]
  exact trimZ_of (TrQ.map t fun x hx => by grind)
theorem mon_len {F : List Rat} (t : TrQ F) (n : F ≠ []) : (mon F).length = F.length := by rw [mon_map t n, List.length_map]
theorem pev_mon {F : List Rat} {x : Rat} : pev (mon F) x = 1 / cf F (F.length - 1) * pev F x := pev_psm
theorem mo_mon {F : List Rat} (t : TrQ F) (n : F ≠ []) : Mo (mon F) := by
  have l0 := t.last n
  refine ⟨trQ_trim, fun z => n (by
    have := mon_len t n
    rw [z] at this
    exact List.length_eq_zero_iff.mp this.symm), ?_⟩
  rw [mon_len t n]
  unfold mon
  rw [cf_psm]
  grind
theorem Mo.mon {P : List Rat} (h : Mo P) : Ml.mon P = P := by
  rw [mon_map h.t h.n, h.h]
  conv => rhs; rw [← List.map_id P]
  exact List.map_congr_left fun q _ => by show q / 1 = q; grind
theorem Mo.pos {P : List Rat} (h : Mo P) : 0 < P.length := List.length_pos_iff.mpr h.n
theorem app_trimQ (f : List Rat) : f = trimQ f ++ z0 (zf f) := by
  have le : (trimQ f).length ≤ f.length := trimZ_le
  have ez : zf f = f.length - (trimQ f).length := rfl
  refine List.ext_getElem? fun k => ?_
  have c := cf_trimZ (p := f) (k := k)
  by_cases hk : k < (trimQ f).length
  · rw [List.getElem?_append_left hk]
    unfold cf at c
    rw [List.getElem?_eq_getElem hk, List.getElem?_eq_getElem (by omega)] at c ⊢
    rw [← show (trimQ f)[k] = f[k] from c]
  · rw [List.getElem?_append_right (by omega), List.getElem?_replicate]
    rw [cf_ge (by omega)] at c
    by_cases h2 : k < f.length
    · rw [if_pos (by omega)]
      unfold cf at c
      rw [List.getElem?_eq_getElem h2] at c ⊢
      rw [← show (0 : Rat) = f[k] from c]
    · rw [if_neg (by omega), List.getElem?_eq_none (by omega)]
theorem headed_pf {f : List Rat} (hz : trimQ f ≠ []) : headed f = pf f ++ z0 (zf f) := by
  show f.map (fun q => q / cf (trimQ f) ((trimQ f).length - 1)) = _
  have l0 := (trQ_trim (p := f)).last hz
  have e : pf f = (trimQ f).map fun q => q / cf (trimQ f) ((trimQ f).length - 1) := mon_map trQ_trim hz
  rw [e]
  generalize cf (trimQ f) ((trimQ f).length - 1) = c at *
  conv => lhs; rw [app_trimQ f]
  rw [List.map_append, List.map_replicate, show (0 : Rat) / c = 0 by grind]
theorem mo_pf {f : List Rat} (hz : trimQ f ≠ []) : Mo (pf f) := mo_mon trQ_trim hz
theorem pf_len {f : List Rat} (hz : trimQ f ≠ []) : (pf f).length + zf f = f.length := by
  have le : (trimQ f).length ≤ f.length := trimZ_le
  have ez : zf f = f.length - (trimQ f).length := rfl
  rw [mon_len trQ_trim hz]
  omega
theorem mo_trim {P : List Rat} {z : Nat} (h : Mo P) : trimQ (P ++ z0 z) = P := (to_trim h.t fun k => cf_app0.symm).symm
theorem mo_zf {P : List Rat} {z : Nat} (h : Mo P) : zf (P ++ z0 z) = z := by
  show (P ++ z0 z).length - (trimQ (P ++ z0 z)).length = z
  rw [mo_trim h, List.length_append, List.length_replicate]
  omega
theorem mo_pf' {P : List Rat} {z : Nat} (h : Mo P) : pf (P ++ z0 z) = P := by
  show mon (trimQ (P ++ z0 z)) = P
  rw [mo_trim h, h.mon]
theorem tim_top {p q : List Rat} (h1 : p ≠ []) (h2 : q ≠ []) : cf (ptim p q) (p.length - 1 + (q.length - 1)) = cf p (p.length - 1) * cf q (q.length - 1) := by
  have l1 := List.length_pos_iff.mpr h1
  have l2 := List.length_pos_iff.mpr h2
  rw [cf_ptim, mulc_sum, sum_window (lo := p.length - 1) (c := 1) (by omega)]
  · show (if p.length - 1 + 0 ≤ p.length - 1 + (q.length - 1) then cf p (p.length - 1 + 0) * cf q (p.length - 1 + (q.length - 1) - (p.length - 1 + 0)) else 0) + 0 = _
    rw [if_pos (by omega), Rat.add_zero, Nat.add_zero, show p.length - 1 + (q.length - 1) - (p.length - 1) = q.length - 1 by omega]
  · intro i hi ho
    by_cases h : i ≤ p.length - 1 + (q.length - 1)
    · rw [if_pos h, cf_ge (p := q) (by omega), Rat.mul_zero]
    · rw [if_neg h]
theorem Mo.tim {P Q : List Rat} (h : Mo P) (h' : Mo Q) : Mo (ptim P Q) := by
  have l := tim_len h.t h'.t h.n h'.n
  have l1 := h.pos
  have l2 := h'.pos
  refine ⟨trQ_trim, fun z => by rw [z] at l; simp at l; omega, ?_⟩
  rw [l, show P.length + Q.length - 1 - 1 = P.length - 1 + (Q.length - 1) by omega, tim_top h.n h'.n, h.h, h'.h, Rat.mul_one]
theorem Mo.len {P Q : List Rat} (h : Mo P) (h' : Mo Q) : (ptim P Q).length + 1 = P.length + Q.length := by
  have l := tim_len h.t h'.t h.n h'.n
  have l1 := h.pos
  omega
/-- one that is a number times the other one is it -/
theorem Mo.ext {P Q : List Rat} {c : Rat} (h : Mo P) (h' : Mo Q) (c0 : c ≠ 0) (e : ∀ x, pev P x = c * pev Q x) : P = Q := by
  have d : ∀ d, Dd d P ↔ Dd d Q := fun d => ⟨fun ⟨u, hu⟩ => ⟨u.map fun q => 1 / c * q, fun x => by
    rw [pev_smul]
    have e1 := e x
    rw [hu] at e1
    have c1 := Rat.mul_inv_cancel c c0
    rw [Rat.div_def]
    grind⟩, fun ⟨u, hu⟩ => ⟨u.map fun q => c * q, fun x => by rw [pev_smul, e, hu]; grind⟩⟩
  have := mono_eq h.t h'.t d
  rwa [h.mon, h'.mon] at this
theorem Mo.cancel {P u w : List Rat} (h : Mo P) (tu : TrQ u) (tw : TrQ w) (e : ptim P u = ptim P w) : u = w := by
  have z := zero_of2 (A := psub u w) h.t h.n fun x => by
    have e1 := congrArg (fun l => pev l x) e
    simp only [pev_tim] at e1
    rw [pev_psub]
    grind
  refine pev_ext tu tw fun x => ?_
  have := z x
  rw [pev_psub] at this
  grind
theorem ptim_assoc {p q r : List Rat} : ptim (ptim p q) r = ptim p (ptim q r) := pev_ext trQ_trim trQ_trim fun x => by rw [pev_tim, pev_tim, pev_tim, pev_tim, Rat.mul_assoc]
/-- the product, its head 1 -/
def fmul (f g : List Rat) : List Rat := ptim (pf f) (pf g) ++ z0 (zf f + zf g)
section
variable {f g h : List Rat}
theorem fmul_mo (hf : trimQ f ≠ []) (hg : trimQ g ≠ []) : Mo (ptim (pf f) (pf g)) := (mo_pf hf).tim (mo_pf hg)
theorem fmul_z (hf : trimQ f ≠ []) (hg : trimQ g ≠ []) : trimQ (fmul f g) ≠ [] := by
  unfold fmul
  rw [mo_trim (fmul_mo hf hg)]
  exact (fmul_mo hf hg).n
theorem fmul_pf (hf : trimQ f ≠ []) (hg : trimQ g ≠ []) : pf (fmul f g) = ptim (pf f) (pf g) := mo_pf' (fmul_mo hf hg)
theorem fmul_zf (hf : trimQ f ≠ []) (hg : trimQ g ≠ []) : zf (fmul f g) = zf f + zf g := mo_zf (fmul_mo hf hg)
theorem fmul_comm : fmul f g = fmul g f := by
  unfold fmul
  rw [ptim_comm, Nat.add_comm]
theorem fmul_len (hf : trimQ f ≠ []) (hg : trimQ g ≠ []) : (fmul f g).length + 1 = f.length + g.length := by
  have l := (mo_pf hf).len (mo_pf hg)
  have l1 := pf_len hf
  have l2 := pf_len hg
  unfold fmul
  rw [List.length_append, List.length_replicate]
  omega
theorem fmul_assoc (hf : trimQ f ≠ []) (hg : trimQ g ≠ []) (hh : trimQ h ≠ []) : fmul (fmul f g) h = fmul f (fmul g h) := by
  show ptim (pf (fmul f g)) (pf h) ++ z0 (zf (fmul f g) + zf h) = ptim (pf f) (pf (fmul g h)) ++ z0 (zf f + zf (fmul g h))
  rw [fmul_pf hf hg, fmul_zf hf hg, fmul_pf hg hh, fmul_zf hg hh, ptim_assoc, Nat.add_assoc]
end
/-- f goes in g -/
def Fdv (f g : List Rat) : Prop := zf f ≤ zf g ∧ Dd (pf f) (pf g)
theorem fdv_mul {f g : List Rat} (hf : trimQ f ≠ []) (hg : trimQ g ≠ []) : Fdv f (fmul f g) := by
  refine ⟨by rw [fmul_zf hf hg]; omega, ?_⟩
  rw [fmul_pf hf hg]
  exact ⟨pf g, fun x => pev_tim⟩
end Ml
set_option Elab.async false
set_option linter.all false
set_option maxRecDepth 100000
set_option maxHeartbeats 400000
set_option exponentiation.threshold 20000
namespace Ml
open PySem L2 Inn Uv Sl
/-! ### lowest terms as the program reckons them -/
theorem trim_of {a : List Int} (t : TrI a) : trim a = a := trimZ_of t
end Ml
set_option Elab.async false
set_option linter.all false
set_option maxRecDepth 100000
set_option maxHeartbeats 400000
set_option exponentiation.threshold 20000
namespace Ml
open PySem L2 Inn Uv Sl
/-! ### forms in the program -/
structure Fv (B : Nat) (f : List Rat) (v : D) : Prop where
  hv : Hv f v
  ex : ∃ N, N ≠ 0 ∧ N < 2 ^ B ∧ Fo N B f
structure Shf (B : Nat) (f : List Rat) (a : List Int) : Prop where
  t : TrI a
  n : a ≠ []
  p : 0 < hd a
  b : ∀ i ∈ a, Bt B i
  m : pf f = mon (Q1 a)
  l : a.length + zf f = f.length
  z : trimQ f ≠ []
abbrev i0 (a : List Int) (n : Nat) : List Int := a ++ List.replicate n 0
theorem Fv.z {B : Nat} {f : List Rat} {v : D} (h : Fv B f v) : trimQ f ≠ [] := let ⟨_, _, _, h⟩ := h.ex; h.z
theorem Fv.l {B : Nat} {f : List Rat} {v : D} (h : Fv B f v) : f.length ≤ 25 := let ⟨_, _, _, h⟩ := h.ex; h.l
theorem Fv.mono {B C : Nat} {f : List Rat} {v : D} (h : Fv B f v) (hc : B ≤ C) : Fv C f v := by
  obtain ⟨N, n0, nb, fo⟩ := h.ex
  exact ⟨h.hv, N, n0, Nat.lt_of_lt_of_le nb (Nat.pow_le_pow_right (by decide) hc), fo.pl.mono hc, fo.l, fo.z⟩
theorem mo_Q1 {a : List Int} (t : TrI a) (n : a ≠ []) : Mo (mon (Q1 a)) := mo_mon (tr1 t) (q1_ne n)
theorem pev_mI {a : List Int} {x : Rat} : pev (mon (Q1 a)) x = 1 / ((hd a : Int) : Rat) * pev (Q1 a) x := by rw [pev_mon, len1, cfi]
theorem trim_i0 {a : List Int} {z : Nat} (t : TrI a) : trim (i0 a z) = a := trim_app0 t
theorem sh_of {B : Nat} {f : List Rat} {s : List Int} (h : Shp f s) (hz : trimQ f ≠ []) (hl : s.length = f.length) (hb : ∀ i ∈ s, Bt B i) : Shf B f (trim s) ∧ s = i0 (trim s) (zf f) := by
  have tt : TrI (trim s) := trimZ_trimd
  have hp : 0 < hd (trim s) := h.pos
  have nn : trim s ≠ [] := fun z => by
    rw [z] at hp
    exact absurd hp (by decide)
  have e : headed f = mon (Q1 (trim s)) ++ z0 (s.length - (trim s).length) := by
    rw [← h.e, ← mon_Q1 tt nn]
    have e2 : (((lastZ s).toNat : Nat) : Rat) = ((hd (trim s) : Int) : Rat) := by
      rw [← Rat.intCast_natCast, Int.toNat_of_nonneg (Int.le_of_lt h.pos)]
      rfl
    show s.map (fun i : Int => (i : Rat) / (((lastZ s).toNat : Nat) : Rat)) = _
    rw [e2]
    generalize ((hd (trim s) : Int) : Rat) = c
    conv => lhs; rw [app_trim (a := s)]
    rw [List.map_append, List.map_replicate, show ((0 : Int) : Rat) / c = 0 by rw [Rat.intCast_zero]; grind]
  have m1 := mo_pf hz
  have m2 := mo_Q1 tt nn
  have e1 := headed_pf hz
  rw [e] at e1
  have ep : pf f = mon (Q1 (trim s)) := by
    have := congrArg trimQ e1
    rw [mo_trim m1, mo_trim m2] at this
    exact this.symm
  have ez : s.length - (trim s).length = zf f := by
    have := congrArg zf e1
    rwa [mo_zf m1, mo_zf m2] at this
  have le : (trim s).length ≤ s.length := trimZ_le
  refine ⟨⟨tt, nn, hp, trim_bt hb, ep, by omega, hz⟩, ?_⟩
  rw [← ez]
  exact app_trim
theorem m_shapeF {B : Nat} {f : List Rat} {v : D} {R : D → Prop} (h : Fv B f v) (hB : B ≤ 4000) (hR : ∀ a, Shf B f a → R (iL (i0 a (zf f)))) : s_shape_of [v] R := by
  obtain ⟨N, n0, nb, fo⟩ := h.ex
  refine m_shape ⟨n0, Nat.lt_of_lt_of_le nb (Nat.pow_le_pow_right (by decide) hB), hB⟩ h.hv fo fun s hs hl hb => ?_
  obtain ⟨sh, e⟩ := sh_of hs fo.z hl hb
  rw [e]
  exact hR _ sh
theorem m_nought {a : List Int} {z : Nat} {R : D → Prop} (t : TrI a) (h : R (.int (z : Nat))) : s_noughts_behind [iL (i0 a z)] R := by
  unfold s_noughts_behind
  rfl'
  refine m_trimmed ?_
  rw [trim_i0 t]
  rfl'
  rw [List.length_map, List.length_map, List.length_append, List.length_replicate, show ((a.length + z : Nat) : Int) - (a.length : Int) = (z : Int) by omega]
  exact h
theorem m_toldS {a : List Int} {z k : Nat} {R : D → Prop} (t : TrI a) (n : a ≠ []) (b : ∀ i ∈ a, Bt k i) (hk : k ≤ 9000) (hl : a.length + z ≤ 1000) (h : R (encQ (mon (Q1 a) ++ z0 z))) : s_told_shape [iL (i0 a z)] R := by
  unfold s_told_shape
  rfl'
  refine m_trimmed ?_
  rw [trim_i0 t]
  rfl'
  have lp := List.length_pos_iff.mpr n
  refine ⟨.int (hd a), ?_, ?_⟩
  · rw [Uv.atI_last (by intro z; rw [List.map_eq_nil_iff] at z; exact n z), List.length_map]
    rw [List.getElem?_map, List.getElem?_eq_getElem (by omega)]
    show some (D.int _) = some (D.int _)
    unfold hd ci
    rw [List.getElem?_eq_getElem (by omega)]
    rfl
  refine m_overI (hd_ne t n) (ci_bt b) hk (sz (by rw [List.length_append, List.length_replicate]; omega)) ?_
  rw [List.map_append, List.map_replicate, mon_Q1 t n, show ((0 : Int) : Rat) / ((hd a : Int) : Rat) = 0 by rw [Rat.intCast_zero]; grind]
  exact h
/-- what is told, as a form again -/
theorem fv_told {a : List Int} {z k : Nat} (t : TrI a) (n : a ≠ []) (b : ∀ i ∈ a, Bt k i) (hl : a.length + z ≤ 25) : Fv k (mon (Q1 a) ++ z0 z) (encQ (mon (Q1 a) ++ z0 z)) := by
  have m := mo_Q1 t n
  have h0 := hd_ne t n
  have bh : Bt k (hd a) := ci_bt b
  refine ⟨⟨_, .l, nus_r⟩, (hd a).natAbs, by omega, bh, ?_, ?_, by rw [mo_trim m]; exact m.n⟩
  · intro q hq
    rcases List.mem_append.mp hq with h1 | h1
    · rw [← mon_Q1 t n] at h1
      obtain ⟨i, hi, rfl⟩ := List.mem_map.mp h1
      obtain ⟨j, e, bj⟩ := abs_over h0 (b i hi)
      exact ⟨j, e, bj⟩
    · rw [(List.mem_replicate.mp h1).2]
      exact ⟨0, by rw [Rat.intCast_zero]; grind, Bt.zero⟩
  · rw [List.length_append, List.length_replicate, mon_len (tr1 t) (q1_ne n), len1]
    exact hl
theorem mon_mul {a b : List Int} (ta : TrI a) (tb : TrI b) (na : a ≠ []) (nb : b ≠ []) : TrI (mulL a b) ∧ mulL a b ≠ [] ∧ mon (Q1 (mulL a b)) = ptim (mon (Q1 a)) (mon (Q1 b)) ∧ (mulL a b).length + 1 = a.length + b.length := by
  have tm : TrI (mulL a b) := by
    have h := trimZ_of (trQ_mulL (L := 1) (by decide) ta tb)
    have : lft 1 (trim (mulL a b)) = lft 1 (mulL a b) := by rw [lft_trim (by decide)]; exact h
    have e := q1_inj2 this
    rw [← e]
    exact trimZ_trimd
  have nm : mulL a b ≠ [] := fun z => by
    have := zero_of2 (A := Q1 a) (tr1 tb) (q1_ne nb) fun x => by
      rw [← pI_mul, z]
      rfl
    exact q1_ne na (pev_ext (tr1 ta) (fun _ e => nomatch e) fun x => by rw [this]; rfl)
  have m1 := mo_Q1 tm nm
  have m2 := (mo_Q1 ta na).tim (mo_Q1 tb nb)
  have c0 : ((hd (mulL a b) : Int) : Rat) ≠ 0 := by exact_mod_cast hd_ne tm nm
  have c1 : ((hd a : Int) : Rat) ≠ 0 := by exact_mod_cast hd_ne ta na
  have c2 : ((hd b : Int) : Rat) ≠ 0 := by exact_mod_cast hd_ne tb nb
  have e : mon (Q1 (mulL a b)) = ptim (mon (Q1 a)) (mon (Q1 b)) := m1.ext (c := ((hd a : Int) : Rat) * ((hd b : Int) : Rat) / ((hd (mulL a b) : Int) : Rat)) m2 (by grind) fun x => by
    rw [pev_tim, pev_mI, pev_mI, pev_mI, pI_mul]
    grind
  refine ⟨tm, nm, e, ?_⟩
  have l := (mo_Q1 ta na).len (mo_Q1 tb nb)
  rw [← e, mon_len (tr1 tm) (q1_ne nm), mon_len (tr1 ta) (q1_ne na), mon_len (tr1 tb) (q1_ne nb), len1, len1, len1] at l
  exact l
theorem m_productF {B C : Nat} {f g : List Rat} {v w : D} {R : D → Prop} (hf : Fv B f v) (hg : Fv C g w) (hB : B ≤ 4000) (hC : C ≤ 4000) (hl : f.length + g.length ≤ 26) (hR : Fv (10 + (B + C)) (fmul f g) (encQ (fmul f g)) → R (encQ (fmul f g))) : s_product [v, w] R := by
  unfold s_product
  rfl'
  refine m_shapeF hf hB fun a ha => ?_
  rfl'
  refine m_shapeF hg hC fun b hb => ?_
  rfl'
  have la := ha.l
  have lb := hb.l
  rw [List.length_map, List.length_map, List.length_append, List.length_append, List.length_replicate, List.length_replicate]
  have e1 : decide (((a.length + zf f : Nat) : Int) + ((b.length + zf g : Nat) : Int) - 2 > 24) = false := decide_eq_false (by omega)
  rw [e1]
  rfl'
  refine m_nought ha.t ?_
  rfl'
  refine m_nought hb.t ?_
  rfl'
  refine m_trimmed ?_
  rw [trim_i0 ha.t]
  rfl'
  refine m_trimmed ?_
  rw [trim_i0 hb.t]
  refine m_multiplied (by omega) (by omega) ha.b hb.b (by omega) ?_
  rfl'
  obtain ⟨tm, nm, em, lm⟩ := mon_mul ha.t hb.t ha.n hb.n
  have em2 : ptim (mon (Q1 a)) (mon (Q1 b)) = ptim (pf f) (pf g) := by rw [ha.m, hb.m]
  have lm2 : (mulL a b).length + (zf f + zf g) ≤ 25 := by omega
  have bm := mulL_bt ha.b hb.b (show a.length ≤ 1000 by omega)
  have fv := fv_told tm nm bm lm2
  rw [em, em2] at fv
  rw [← Int.natCast_add, Int.toNat_natCast, flat_zero, List.length_map, List.length_map, List.length_replicate, ← List.map_append]
  refine ⟨sz, ⟨by omega, by omega, sz (by omega)⟩, sz (by omega), ?_⟩
  refine m_toldS tm nm bm (by omega) (by omega) ?_
  rw [em, em2]
  exact hR fv
/-! ### what is left -/
theorem dd_pf {P Q F G : List Rat} {c d : Rat} (hc : c ≠ 0) (hd : d ≠ 0) (e1 : ∀ x, pev P x = c * pev F x) (e2 : ∀ x, pev Q x = d * pev G x) : Dd P Q ↔ Dd F G := by
  have c1 := Rat.mul_inv_cancel c hc
  have d1 := Rat.mul_inv_cancel d hd
  refine ⟨fun ⟨u, hu⟩ => ⟨u.map fun q => c * d⁻¹ * q, fun x => ?_⟩, fun ⟨u, hu⟩ => ⟨u.map fun q => d * c⁻¹ * q, fun x => ?_⟩⟩
  · rw [pev_smul]
    have h := hu x
    rw [e1, e2] at h
    grind
  · rw [pev_smul, e1, e2, hu]
    grind
theorem pos_inv {i : Int} (h : i ≠ 0) : 1 / ((i : Int) : Rat) ≠ 0 := by
  have : (i : Rat) ≠ 0 := by exact_mod_cast h
  grind
theorem nz_mul {a b : Rat} (ha : a ≠ 0) (hb : b ≠ 0) : a * b ≠ 0 := fun z => (Rat.mul_eq_zero.mp z).elim ha hb
theorem m_restS {f g : List Rat} {a b : List Int} {B : Nat} {R : D → Prop} (ha : Shf B f a) (hb : Shf B g b) (lf : f.length ≤ 25) (lg : g.length ≤ 25) (hB0 : 0 < B) (hB : 27 * (B + 1) ≤ 4490)
    (h1 : Fdv f g → ∀ c, TrI c → c ≠ [] → (∀ i ∈ c, Bt (27 * (B + 1)) i) → ptim (pf f) (mon (Q1 c)) = pf g → R (iL (i0 c (zf g - zf f)))) (h2 : ¬ Fdv f g → R .non) : s_rest_shape [iL (i0 a (zf f)), iL (i0 b (zf g))] R := by
  have la := ha.l
  have lb := hb.l
  have pa := List.length_pos_iff.mpr ha.n
  have da := hd_ne ha.t ha.n
  have db := hd_ne hb.t hb.n
  have iff : Dd (pf f) (pf g) ↔ Dd (Q1 a) (Q1 b) := dd_pf (pos_inv da) (pos_inv db) (fun x => by rw [ha.m, pev_mI]) fun x => by rw [hb.m, pev_mI]
  unfold s_rest_shape
  rfl'
  refine m_nought hb.t ?_
  rfl'
  refine m_nought ha.t ?_
  rfl'
  refine m_trimmed ?_
  rw [trim_i0 hb.t]
  rfl'
  refine m_trimmed ?_
  rw [trim_i0 ha.t]
  refine m_divided (B := B) da (by omega) (by omega) hb.b ha.b hB0 (by omega) fun t et => ?_
  rfl'
  have dv := run_dvd (L := 1) (M := 1) (a := b) (b := a) (by decide) (by decide) rfl rfl ha.t ha.n
  rw [← et] at dv
  obtain ⟨s1, s2, s3⟩ := runD_sem da (b.length + 1 - a.length) (1, [], b) b (fun h => by show b.length = _; omega) (fun i hi => ci_ge (by show b.length ≤ i; omega)) (show (1 : Int) ≠ 0 by decide) fun x => by
    show ((1 : Int) : Rat) * _ = _ * (0 : Rat) + _
    rw [show ((1 : Int) : Rat) = 1 from rfl]
    grind
  have fin := (Dv.init (b := a) (a := b) (B := B) ha.n hb.b hB0).fin da ha.n ha.b
  rw [← et] at s1 s2 s3 fin
  have ql := fin.ql
  have beta' : (b.length + 1 - a.length - 0 + 1) * (B + 1) ≤ 27 * (B + 1) := Nat.mul_le_mul_right _ (by omega)
  have qb : ∀ i ∈ t.2.1, Bt (27 * (B + 1)) i := fun i hi => (fin.qb i hi).mono beta'
  by_cases hz : zf g < zf f
  · rw [decide_eq_true (show ((zf g : Nat) : Int) - ((zf f : Nat) : Int) < 0 by omega)]
    rfl'
    exact h2 fun h => by have := h.1; omega
  rw [decide_eq_false (show ¬ ((zf g : Nat) : Int) - ((zf f : Nat) : Int) < 0 by omega)]
  rfl'
  by_cases hr : trim t.2.2 = []
  · rw [hr]
    rfl'
    have hd2 : Dd (Q1 a) (Q1 b) := (dv.mp hr).2
    have r0 : ∀ x, pev (lft 1 t.2.2) x = 0 := fun x => by
      rw [← pev_trimI, hr]
      rfl
    have s1R : (t.1 : Rat) ≠ 0 := by exact_mod_cast s1
    have c1 := Rat.mul_inv_cancel _ s1R
    have id : ∀ x, (t.1 : Rat) * pev (Q1 b) x = pev (Q1 a) x * pev (Q1 (trim t.2.1)) x := fun x => by
      have := s3 x
      rw [r0, ← pev_trimI (a := t.2.1), Rat.add_zero] at this
      exact this
    have tq : TrI (trim t.2.1) := trimZ_trimd
    have qb' : ∀ i ∈ trim t.2.1, Bt (27 * (B + 1)) i := fun i hi => qb i (mem_trimZ hi)
    have lq' : (trim t.2.1).length ≤ t.2.1.length := trimZ_le
    generalize trim t.2.1 = q at *
    have nq : q ≠ [] := fun z => by
      have e0 : ∀ x, pev (Q1 b) x = pev [] x := fun x => by
        have := id x
        have e0 : pev (Q1 []) x = 0 := rfl
        rw [z, e0] at this
        show _ = (0 : Rat)
        grind
      exact q1_ne hb.n (pev_ext (tr1 hb.t) (fun a e => nomatch e) e0)
    have sp := bare_spec (a := q) (by rw [trim_of tq]; exact nq)
    rw [trim_of tq] at sp
    obtain ⟨G, g0, eG⟩ := sp.ex
    have bt : TrI (bareL q) := bare_trimd
    have bn : bareL q ≠ [] := fun z => nq (by rw [eG, z]; rfl)
    refine m_bare (by omega) qb' hB ?_
    rfl'
    have e1 : ((zf g : Nat) : Int) - ((zf f : Nat) : Int) = ((zf g - zf f : Nat) : Int) := by omega
    have lbr : (bareL q).length = q.length := by rw [bare_len, trim_of tq]
    rw [e1, Int.toNat_natCast, flat_zero, List.length_map, List.length_map, List.length_replicate, ← List.map_append]
    refine ⟨sz, ⟨by omega, by omega, sz (by omega)⟩, sz (by omega), ?_⟩
    refine h1 ⟨by omega, iff.mpr hd2⟩ _ bt bn (bare_bt qb') ?_
    have m2 := (mo_pf ha.z).tim (mo_Q1 bt bn)
    have gR : (G : Rat) ≠ 0 := by exact_mod_cast g0
    have hq : ∀ x, pev (Q1 q) x = (G : Rat) * pev (Q1 (bareL q)) x := fun x => by
      conv => lhs; rw [eG]
      rw [← pev_smul]
      show pev (List.map _ (List.map _ _)) x = pev (List.map _ (List.map _ _)) x
      rw [List.map_map, List.map_map]
      congr 1
      refine List.map_congr_left fun i _ => ?_
      show ((G * i : Int) : Rat) / ((1 : Nat) : Rat) = (G : Rat) * ((i : Rat) / ((1 : Nat) : Rat))
      rw [Rat.intCast_mul]
      grind
    have i1 := pos_inv da
    have i2 := pos_inv db
    have i3 := pos_inv (hd_ne bt bn)
    have hA : ((hd a : Int) : Rat) ≠ 0 := by exact_mod_cast da
    have hB' : ((hd b : Int) : Rat) ≠ 0 := by exact_mod_cast db
    have hC : ((hd (bareL q) : Int) : Rat) ≠ 0 := by exact_mod_cast hd_ne bt bn
    refine m2.ext (c := (1 / ((hd a : Int) : Rat)) * (1 / ((hd (bareL q) : Int) : Rat)) * (t.1 : Rat) * (G : Rat)⁻¹ * ((hd b : Int) : Rat)) (mo_pf hb.z) ?_ fun x => ?_
    · have g1 := Rat.mul_inv_cancel _ gR
      have this : (G : Rat)⁻¹ ≠ 0 := fun z => by
        rw [z, Rat.mul_zero] at g1
        exact absurd g1 (by decide)
      refine nz_mul (nz_mul (nz_mul (nz_mul i1 i3) s1R) this) hB'
    · rw [pev_tim, ha.m, hb.m, pev_mI, pev_mI, pev_mI]
      have h3 := id x
      rw [hq] at h3
      have g1 := Rat.mul_inv_cancel _ gR
      generalize pev (Q1 a) x = A at *
      generalize pev (Q1 b) x = Bb at *
      generalize pev (Q1 (bareL q)) x = Cc at *
      generalize ((hd a : Int) : Rat) = X at *
      generalize ((hd (bareL q) : Int) : Rat) = Y at *
      have b1 := Rat.mul_inv_cancel _ hB'
      rw [Rat.div_def, Rat.div_def, Rat.div_def, Rat.one_mul, Rat.one_mul, Rat.one_mul]
      generalize X⁻¹ = X' at *
      generalize Y⁻¹ = Y' at *
      generalize ((hd b : Int) : Rat) = Z at *
      generalize Z⁻¹ = Z' at *
      generalize (G : Rat) = g' at *
      generalize g'⁻¹ = h' at *
      generalize (t.1 : Rat) = T at *
      grind
  · have e1 : (trim t.2.2).map D.int ≠ [] := fun z => hr (List.map_eq_nil_iff.mp z)
    rw [isE' hr]
    rfl'
    refine h2 fun h => hr (dv.mpr ⟨?_, iff.mp h.2⟩)
    exact ⟨a.length - 1, by rw [cfi]; exact_mod_cast da⟩
section
variable {f g : List Rat} {v w : D} {B : Nat} {R : D → Prop}
theorem m_dividesF (hf : Fv B f v) (hg : Fv B g w) (hB0 : 0 < B) (hB : B ≤ 160) (h1 : Fdv f g → R (.bl true)) (h2 : ¬ Fdv f g → R (.bl false)) : s_divides [v, w] R := by
  unfold s_divides
  rfl'
  refine m_shapeF hf (by omega) fun a ha => ?_
  rfl'
  refine m_shapeF hg (by omega) fun b hb => ?_
  rfl'
  unfold s_is_shape_divider
  rfl'
  refine m_restS ha hb hf.l hg.l hB0 (by omega) (fun h c _ _ _ _ => ?_) fun h => ?_
  · exact ⟨fun _ => nofun, h1 h⟩
  · exact ⟨fun _ => nofun, h2 h⟩
/-- what is told of the rest -/
structure Rst (f g u : List Rat) : Prop where
  m : Mo u
  e : ptim (pf f) u = pf g
  z : zf f ≤ zf g
abbrev rst (f g u : List Rat) : List Rat := u ++ z0 (zf g - zf f)
theorem rst_len (r : Rst f g u) (hf : trimQ f ≠ []) (hg : trimQ g ≠ []) : (rst f g u).length + f.length = g.length + 1 := by
  have l := (mo_pf hf).len r.m
  have l1 := pf_len hf
  have l2 := pf_len hg
  have z := r.z
  rw [r.e] at l
  rw [List.length_append, List.length_replicate]
  omega
theorem m_restF (hf : Fv B f v) (hg : Fv B g w) (hB0 : 0 < B) (hB : B ≤ 160) (hd : Fdv f g) (h1 : ∀ u, Rst f g u → Fv (27 * (B + 1)) (rst f g u) (encQ (rst f g u)) → R (encQ (rst f g u))) : s_rest_form [v, w] R := by
  unfold s_rest_form
  rfl'
  refine m_shapeF hf (by omega) fun a ha => ?_
  rfl'
  refine m_shapeF hg (by omega) fun b hb => ?_
  rfl'
  refine m_restS ha hb hf.l hg.l hB0 (by omega) (fun h c tc nc bc ec => ?_) fun h => absurd hd h
  rfl'
  have r : Rst f g (mon (Q1 c)) := ⟨mo_Q1 tc nc, ec, hd.1⟩
  have l := rst_len r hf.z hg.z
  have lf := hf.l
  have lg := hg.l
  have l0 := List.length_pos_iff.mpr hf.z
  have l1 : (trimQ f).length ≤ f.length := trimZ_le
  rw [List.length_append, List.length_replicate, mon_len (tr1 tc) (q1_ne nc), len1] at l
  refine ⟨fun _ => nofun, ?_⟩
  exact m_toldS tc nc bc (by omega) (by omega) (h1 _ r (fv_told tc nc bc (by omega)))
theorem mx_restF {R : Option D → Prop} (hf : Fv B f v) (hg : Fv B g w) (hB0 : 0 < B) (hB : B ≤ 160) (h1 : Fdv f g → ∀ u, Rst f g u → Fv (27 * (B + 1)) (rst f g u) (encQ (rst f g u)) → R (some (encQ (rst f g u)))) (h2 : ¬ Fdv f g → R none) : sx_rest_form [v, w] R := by
  unfold sx_rest_form
  rfl'
  refine m_shapeF hf (by omega) fun a ha => ?_
  rfl'
  refine m_shapeF hg (by omega) fun b hb => ?_
  rfl'
  refine m_restS ha hb hf.l hg.l hB0 (by omega) (fun hd c tc nc bc ec => ?_) fun h => ?_
  · rfl'
    have r : Rst f g (mon (Q1 c)) := ⟨mo_Q1 tc nc, ec, hd.1⟩
    have l := rst_len r hf.z hg.z
    have lf := hf.l
    have lg := hg.l
    have l0 := List.length_pos_iff.mpr hf.z
    have l1 : (trimQ f).length ≤ f.length := trimZ_le
    rw [List.length_append, List.length_replicate, mon_len (tr1 tc) (q1_ne nc), len1] at l
    refine ⟨fun _ => nofun, ?_⟩
    exact m_toldS tc nc bc (by omega) (by omega) (h1 hd _ r (fv_told tc nc bc (by omega)))
  · exact ⟨fun _ => nofun, h2 h⟩
end
end Ml
set_option Elab.async false
set_option linter.all false
set_option maxRecDepth 100000
set_option maxHeartbeats 400000
set_option exponentiation.threshold 20000
namespace Ml
open PySem L2 Inn Uv Sl
/-! ### law_k42: forms -/
structure Gf (B : Nat) (f : List Rat) : Prop where
  ex : ∃ N, N ≠ 0 ∧ N < 2 ^ B ∧ Fo N B f
section
variable {f g : List Rat} {B C : Nat}
theorem Gf.z (h : Gf B f) : trimQ f ≠ [] := let ⟨_, _, _, h⟩ := h.ex; h.z
theorem Gf.l (h : Gf B f) : f.length ≤ 25 := let ⟨_, _, _, h⟩ := h.ex; h.l
theorem Gf.mono (h : Gf B f) (hc : B ≤ C) : Gf C f := by
  obtain ⟨N, n0, nb, fo⟩ := h.ex
  exact ⟨N, n0, Nat.lt_of_lt_of_le nb (Nat.pow_le_pow_right (by decide) hc), fo.pl.mono hc, fo.l, fo.z⟩
theorem Gf.hs (h : Gf B f) : Hs B f := by
  obtain ⟨N, n0, nb, fo⟩ := h.ex
  exact fo.pl.hs n0 nb (Nat.le_refl _)
theorem Gf.fv {v : D} (h : Gf B f) (hv : Hv f v) : Fv B f v := ⟨hv, h.ex⟩
theorem Fv.gf {v : D} (h : Fv B f v) : Gf B f := ⟨h.ex⟩
theorem Gf.sh (h : Gf B f) (h0 : 0 < B) : ∃ (c : Rat) (a : List Int), c ≠ 0 ∧ trimQ f = scl c a ∧ Ht B c ∧ Shf B f a := by
  obtain ⟨N, n0, nb, fo⟩ := h.ex
  obtain ⟨c, a, c0, e, br, hc⟩ := scl_of (pl_trim fo.pl) n0 nb trQ_trim h0
  have na : a ≠ [] := fun z => fo.z (by rw [e, z]; rfl)
  obtain ⟨c1, hp⟩ := br.c na
  have le : (trimQ f).length ≤ f.length := trimZ_le
  have ez : zf f = f.length - (trimQ f).length := rfl
  have el : (trimQ f).length = a.length := by rw [e, scl_len]
  have l0 := (trQ_trim (p := f)).last fo.z
  have hR : ((hd a : Int) : Rat) ≠ 0 := by
    have : hd a ≠ 0 := by omega
    exact_mod_cast this
  refine ⟨c, a, c0, e, hc, br.t, na, hp, br.b, (mo_pf fo.z).ext (c := c * ((hd a : Int) : Rat) / cf (trimQ f) ((trimQ f).length - 1)) (mo_Q1 br.t na) (by grind) fun x => ?_, by omega, fo.z⟩
  show pev (mon (trimQ f)) x = _
  rw [pev_mon, pev_mI]
  have e2 : pev (trimQ f) x = c * pev (Q1 a) x := by rw [e, pev_scl]
  rw [e2]
  generalize cf (trimQ f) ((trimQ f).length - 1) = y at *
  generalize ((hd a : Int) : Rat) = w at *
  grind
theorem gf_mul (hf : Gf B f) (hg : Gf C g) (b0 : 0 < B) (c0 : 0 < C) (hl : f.length + g.length ≤ 26) : Gf (10 + (B + C)) (fmul f g) := by
  obtain ⟨_, a, _, _, _, ha⟩ := hf.sh b0
  obtain ⟨_, b, _, _, _, hb⟩ := hg.sh c0
  obtain ⟨tm, nm, em, lm⟩ := mon_mul ha.t hb.t ha.n hb.n
  have la := ha.l
  have lb := hb.l
  have fv := fv_told (z := zf f + zf g) tm nm (mulL_bt ha.b hb.b (show a.length ≤ 1000 by omega)) (by omega)
  rw [em, ← ha.m, ← hb.m] at fv
  exact fv.gf
end
theorem Lf.gf {f : List Rat} (h : Lf f) : Gf 5 f := ⟨6, by decide, by decide, by
  have := h.hs
  exact ⟨h.fo.pl, h.fo.l, h.fo.z⟩⟩
theorem m_lform42 {a : Addr} {m : Nat} {R : D → Prop} (hm : 0 < m) (hm2 : m ≤ 5) (h : ∀ f, Lf f → f.length ≤ m + 2 → R (encPP f)) : s_law_form_k42 [.pot a, .int (m : Nat)] R := by
  unfold s_law_form_k42
  rfl'
  unfold s_law_standing_k41
  rfl'
  refine m_draw (by omega) (by omega) fun n hn => ?_
  rfl'
  refine ⟨⟨by omega, by omega⟩, by rw [List.length_map, List.length_range]; exact sz (by omega), ?_⟩
  refine mapD_all (Q := fun _ y => ∃ q, Lq q ∧ y = encP q) (fun x hx R' h' => ?_) fun ys hys => ?_
  · rfl'
    exact m_lentry fun q hq => h' _ ⟨q, hq, rfl⟩
  · obtain ⟨p, rfl, hp, lp⟩ := all_P hys
    rw [List.length_range, Int.toNat_natCast] at lp
    rfl'
    refine ⟨sz, sz, sz, sz, m_pick (by decide) (by decide) fun x hx => ⟨sz, ?_⟩⟩
    obtain ⟨c, hc, c0, rfl⟩ : ∃ c, Lq c ∧ c ≠ 0 ∧ x = encP c := by
      simp only [List.mem_cons, List.not_mem_nil, or_false] at hx
      rcases hx with rfl | rfl | rfl
      · exact ⟨1, ⟨6, by decide +kernel, by decide⟩, by decide +kernel, rfl⟩
      · exact ⟨-2, ⟨-12, by decide +kernel, by decide⟩, by decide +kernel, rfl⟩
      · exact ⟨rq 1 3, ⟨2, by decide +kernel, by decide⟩, by decide +kernel, (encP_lit (by decide +kernel) (by decide +kernel)).symm⟩
    rfl'
    refine ⟨by rw [List.length_map]; exact sz (by omega), sz, sz, m_draw (by decide) (by decide) fun j hj => ?_⟩
    rfl'
    rw [Int.toNat_natCast, zeros_P]
    have e1 : p.map encP ++ [encP c] ++ (List.replicate j (0 : Rat)).map encP = (p ++ [c] ++ List.replicate j 0).map encP := by
      rw [List.map_append, List.map_append]
      rfl
    refine ⟨⟨by omega, by omega, sz (by omega)⟩, ?_, ?_⟩
    · rw [List.length_append, List.length_map, List.length_map, List.length_replicate]
      exact sz (by simp; omega)
    rw [e1]
    refine h _ ⟨fun q hq => ?_, ?_, ?_, trim_ne (i := p.length) ?_⟩ ?_
    · rcases List.mem_append.mp hq with h1 | h1
      · rcases List.mem_append.mp h1 with h2 | h2
        · exact hp q h2
        · rw [List.mem_singleton.mp h2]; exact hc
      · rw [(List.mem_replicate.mp h1).2]; exact lq0
    · simp
      omega
    · simp
      omega
    · rw [cf_app0, cf_get (a := c) (by rw [List.getElem?_append_right (Nat.le_refl _), Nat.sub_self]; rfl)]
      exact c0
    · simp
      omega
theorem m_lplain {f : List Rat} {R : D → Prop} (hl : f.length ≤ 1000) (h : R (.tup [encPP (trimQ f), .int (zf f : Nat)])) : s_law_plain [encPP f] R := by
  have le : (trimQ f).length ≤ f.length := trimZ_le
  unfold s_law_plain
  rfl'
  refine m_ltrim41 hl ?_
  rfl'
  rw [List.length_map, List.length_map, show ((f.length : Nat) : Int) - (((trimQ f).length : Nat) : Int) = ((f.length - (trimQ f).length : Nat) : Int) by omega]
  exact ⟨sz, h⟩
theorem m_lfilled {p : List Rat} {d : Nat} {R : D → Prop} (hl : p.length ≤ d + 1) (hd : d ≤ 500) (h : R (encPP (p ++ z0 (d + 1 - p.length)))) : s_law_filled [encPP p, .int (d : Nat)] R := by
  unfold s_law_filled
  rfl'
  rw [List.length_map, show ((d : Nat) : Int) + 1 - ((p.length : Nat) : Int) = ((d + 1 - p.length : Nat) : Int) by omega, Int.toNat_natCast, zeros_P, List.length_map, List.length_replicate, ← List.map_append]
  exact ⟨sz, sz, ⟨by omega, by omega, sz (by omega)⟩, sz (by omega), h⟩
theorem m_lformed {B C : Nat} {f g : List Rat} {R : D → Prop} (hf : Gf B f) (hg : Gf C g) (b0 : 0 < B) (c0 : 0 < C) (hB : B ≤ 200) (hC : C ≤ 200) (hl : f.length + g.length ≤ 26) (h : R (encPP (fmul f g))) : s_law_formed [encPP f, encPP g] R := by
  have lf : (trimQ f).length ≤ f.length := trimZ_le
  have lg : (trimQ g).length ≤ g.length := trimZ_le
  have pf0 := List.length_pos_iff.mpr hf.z
  have pg0 := List.length_pos_iff.mpr hg.z
  obtain ⟨N, n0, nb, fo⟩ := hf.ex
  obtain ⟨M, m0, mb, go⟩ := hg.ex
  unfold s_law_formed
  rfl'
  refine m_lplain (by omega) ?_
  rfl'
  refine m_lplain (by omega) ?_
  rfl'
  refine ⟨_, rfl, _, rfl, ?_⟩
  have pp : (trimQ f).length * (trimQ g).length ≤ 25 * 25 := Nat.mul_le_mul (by omega) (by omega)
  refine m_ltimes42 (pl_trim fo.pl) (pl_trim go.pl) n0 m0 nb mb (Nat.le_refl _) (Nat.le_refl _) b0 c0 (by omega) (by omega) (by omega) ?_
  have tl := tim_len trQ_trim trQ_trim hf.z hg.z
  rw [List.length_map, List.length_map, show ((f.length : Nat) : Int) + ((g.length : Nat) : Int) - 2 = ((f.length + g.length - 2 : Nat) : Int) by omega]
  refine m_lfilled (by omega) (by omega) ?_
  have e1 : f.length + g.length - 2 + 1 - (ptim (trimQ f) (trimQ g)).length = zf f + zf g := by
    have e1 : zf f = f.length - (trimQ f).length := rfl
    have e2 : zf g = g.length - (trimQ g).length := rfl
    omega
  rw [e1]
  have tp : trimQ (ptim (trimQ f) (trimQ g) ++ z0 (zf f + zf g)) = ptim (trimQ f) (trimQ g) := (to_trim trQ_trim fun k => cf_app0.symm).symm
  have np : ptim (trimQ f) (trimQ g) ≠ [] := fun z => by
    rw [z] at tl
    simp at tl
    omega
  have pl := pl_tim (m := 5) (pl_trim fo.pl) (pl_trim go.pl) (by omega)
  have nm : N * M < 2 ^ (5 + (B + C)) := Nat.lt_of_lt_of_le (Nat.mul_lt_mul'' nb mb) (by rw [← Nat.pow_add]; exact Nat.pow_le_pow_right (by decide) (by omega))
  have hs := pl.hs (Nat.mul_ne_zero n0 m0) nm (Nat.le_refl _)
  have hs2 : Hs (5 + (B + C)) (ptim (trimQ f) (trimQ g) ++ z0 (zf f + zf g)) := fun q hq => (List.mem_append.mp hq).elim (hs q) fun h1 => by
    rw [(List.mem_replicate.mp h1).2]
    exact ht0 (by omega)
  refine m_lheaded hs2 (by omega) (by omega) (by rw [List.length_append, List.length_replicate]; omega) (by rw [tp]; exact np) ?_
  rw [headed_pf (by rw [tp]; exact np)]
  have e2 : pf (ptim (trimQ f) (trimQ g) ++ z0 (zf f + zf g)) = ptim (pf f) (pf g) := by
    show mon (trimQ _) = _
    rw [tp]
    have c1 := (trQ_trim (p := f)).last hf.z
    have c2 := (trQ_trim (p := g)).last hg.z
    have c3 := (trQ_trim (p := pmul (trimQ f) (trimQ g))).last np
    refine (mo_mon trQ_trim np).ext (c := cf (trimQ f) ((trimQ f).length - 1) * cf (trimQ g) ((trimQ g).length - 1) / cf (ptim (trimQ f) (trimQ g)) ((ptim (trimQ f) (trimQ g)).length - 1)) ((mo_pf hf.z).tim (mo_pf hg.z)) (by grind) fun x => ?_
    rw [pev_mon, pev_tim, pev_tim]
    show _ = _ * (pev (mon (trimQ f)) x * pev (mon (trimQ g)) x)
    rw [pev_mon, pev_mon]
    generalize cf (trimQ f) ((trimQ f).length - 1) = c1 at *
    generalize cf (trimQ g) ((trimQ g).length - 1) = c2 at *
    generalize cf (ptim (trimQ f) (trimQ g)) ((ptim (trimQ f) (trimQ g)).length - 1) = c3 at *
    grind
  have e3 : zf (ptim (trimQ f) (trimQ g) ++ z0 (zf f + zf g)) = zf f + zf g := by
    show (ptim (trimQ f) (trimQ g) ++ z0 (zf f + zf g)).length - (trimQ _).length = _
    rw [tp, List.length_append, List.length_replicate]
    omega
  rw [e2, e3]
  exact h
end Ml
set_option Elab.async false
set_option linter.all false
set_option maxRecDepth 100000
set_option maxHeartbeats 400000
set_option exponentiation.threshold 20000
namespace Ml
open PySem L2 Inn Uv Sl
section
variable {f g : List Rat} {B : Nat} {R : D → Prop}
theorem eqnil_P {r : List Rat} (h : R (.bl (decide (r = [])))) : eqT noE 1 (encPP r) (.lst []) R := by
  cases r with
  | nil => exact h
  | cons x r => exact h
theorem m_lgoes (hf : Gf B f) (hg : Gf B g) (b0 : 0 < B) (hB : B ≤ 140) (h1 : Fdv f g → R (.bl true)) (h2 : ¬ Fdv f g → R (.bl false)) : s_law_goes_in [encPP f, encPP g] R := by
  have lf := hf.l
  have lg := hg.l
  obtain ⟨c, a, c0, ea, hc, ha⟩ := hf.sh b0
  obtain ⟨d, b, d0, eb, hd', hb⟩ := hg.sh b0
  have la := ha.l
  have lb := hb.l
  have iff : Dd (pf f) (pf g) ↔ Dd (scl c a) (scl d b) := by
    refine dd_pf (c := c⁻¹ * (1 / ((hd a : Int) : Rat))) (d := d⁻¹ * (1 / ((hd b : Int) : Rat))) (nz_mul ?_ (pos_inv (hd_ne ha.t ha.n))) (nz_mul ?_ (pos_inv (hd_ne hb.t hb.n))) (fun x => ?_) fun x => ?_
    · intro z
      have := Rat.mul_inv_cancel _ c0
      rw [z, Rat.mul_zero] at this
      exact absurd this (by decide)
    · intro z
      have := Rat.mul_inv_cancel _ d0
      rw [z, Rat.mul_zero] at this
      exact absurd this (by decide)
    · have := Rat.mul_inv_cancel _ c0
      rw [ha.m, pev_mI, pev_scl]
      grind
    · have := Rat.mul_inv_cancel _ d0
      rw [hb.m, pev_mI, pev_scl]
      grind
  unfold s_law_goes_in
  rfl'
  refine m_lplain (by omega) ?_
  rfl'
  refine m_lplain (by omega) ?_
  rfl'
  refine ⟨_, rfl, _, rfl, ?_⟩
  rfl'
  by_cases hz : zf f ≤ zf g
  · rw [decide_eq_true (show ((zf f : Nat) : Int) ≤ ((zf g : Nat) : Int) by omega)]
    rfl'
    refine ⟨_, rfl, _, rfl, ?_⟩
    rw [ea, eb]
    have kk : (b.length + 1 - a.length + 1) * (B + 1) ≤ 27 * (B + 1) := Nat.mul_le_mul_right _ (by omega)
    refine m_ldivided42 (E := B + 27 * (B + 1)) (QH := B + 27 * (B + 1) + (B + B)) d0 c0 hd' hc hb.t ha.t ha.n hb.b ha.b b0 (by omega) (by omega) (by omega) (by omega) rfl (by omega) fun u r q => ?_
    rfl'
    refine ⟨_, rfl, sz, eqnil_P ?_⟩
    by_cases hr : r = []
    · rw [decide_eq_true hr]
      refine h1 ⟨hz, iff.mpr ⟨u, fun x => ?_⟩⟩
      rw [q.id, hr]
      show _ + (0 : Rat) = _
      rw [Rat.add_zero]
    · rw [decide_eq_false hr]
      refine h2 fun h => hr ?_
      have dr : Dd (scl c a) r := by
        obtain ⟨s, hs⟩ := iff.mp h.2
        exact ⟨psub s u, fun x => by
          have := q.id x
          rw [hs] at this
          rw [pev_psub]
          grind⟩
      by_cases n : r = []
      · exact n
      · obtain ⟨s, ts, ns, _, hl⟩ := dd_len dr (scl_tr c0 ha.t) q.tr n
        have := q.lr
        have := List.length_pos_iff.mpr ns
        rw [scl_len] at hl
        omega
  · rw [decide_eq_false (show ¬ ((zf f : Nat) : Int) ≤ ((zf g : Nat) : Int) by omega)]
    rfl'
    exact h2 fun h => hz h.1
theorem neB3 {b : Bool} (h : R (.bl false)) : neT ownE 3 (.bl b) (.bl b) R := by cases b <;> exact h
theorem rst_mul {u : List Rat} (r : Rst f g u) (hg : trimQ g ≠ []) : fmul f (rst f g u) = headed g := by
  have z := r.z
  show ptim (pf f) (pf (u ++ z0 (zf g - zf f))) ++ z0 (zf f + zf (u ++ z0 (zf g - zf f))) = _
  rw [mo_pf' r.m, mo_zf r.m, r.e, headed_pf hg, show zf f + (zf g - zf f) = zf g by omega]
theorem m_likeF {C : Nat} {v w : D} (hf : Fv B f v) (hg : Fv C g w) (hB : B ≤ 4000) (hC : C ≤ 4000) (h : R (.bl (decide (headed f = headed g)))) : s_are_like [v, w] R := by
  obtain ⟨N, n0, nb, fo⟩ := hf.ex
  obtain ⟨M, m0, mb, go⟩ := hg.ex
  exact m_like ⟨n0, Nat.lt_of_lt_of_le nb (Nat.pow_le_pow_right (by decide) hB), hB⟩ ⟨m0, Nat.lt_of_lt_of_le mb (Nat.pow_le_pow_right (by decide) hC), hC⟩ hf.hv hg.hv fo go h
theorem notN_l {l : List D} (h : R (.bl true)) : notNoneG (.lst l) .non R := h
theorem notN_n (h : R (.bl false)) : notNoneG .non .non R := h
theorem isN_l {l : List D} (h : R (.bl false)) : isNoneG (.lst l) .non R := h
theorem isN_n (h : R (.bl true)) : isNoneG .non .non R := h
theorem m_any {a : Addr} (hf : Gf B f) (hg : Gf B g) (b0 : 0 < B) (hB : B ≤ 140) (h : R (.bl true)) : s_law_any_right [.pot a, encPP f, encPP g] R := by
  have lf := hf.l
  have lg := hg.l
  unfold s_law_any_right
  rfl'
  refine m_lgivenf hf.hs (by omega) (by omega) fun v hv => m_lgivenf hg.hs (by omega) (by omega) fun w hw => ?_
  have fv := hf.fv hv
  have fw := hg.fv hw
  by_cases hd : Fdv f g
  · refine m_lgoes hf hg b0 hB (fun _ => ?_) fun n => absurd hd n
    rfl'
    refine m_dividesF fv fw b0 (by omega) (fun _ => ?_) fun n => absurd hd n
    rfl'
    rw [arr_10]
    refine m_dividesF fv fw b0 (by omega) (fun _ => ?_) fun n => absurd hd n
    rfl'
    obtain ⟨t, et, lt⟩ := tl_bls (n := 1) (b := true) (c := true)
    have lt := Nat.le_trans lt (show _ ≤ sizeLine by decide)
    refine ⟨sz, t, et, lt, sz, t, et, lt, ?_⟩
    rw [show (!t == t) = false by simp]
    rfl'
    unfold s_law_rest
    rfl'
    unfold opNX
    rfl'
    refine mx_restF fv fw b0 (by omega) (fun _ u r fr => ?_) fun n => absurd hd n
    have l := rst_len r hf.z hg.z
    unfold optX
    rfl'
    show (∀ v : V, encQ (rst f g u) ≠ D.cls v) ∧ _
    refine ⟨fun _ => nofun, ?_⟩
    refine notN_l (neB3 ?_)
    rfl'
    refine ⟨fun _ => nofun, isN_l ?_⟩
    rfl'
    refine m_productF fv fr (by omega) (by omega) (by omega) fun fm => ?_
    refine m_likeF fm fw (by omega) (by omega) ?_
    rw [rst_mul r hg.z, headed2 hg.z, decide_eq_true rfl]
    rfl'
    exact h
  · refine m_lgoes hf hg b0 hB (fun n => absurd n hd) fun _ => ?_
    rfl'
    refine m_dividesF fv fw b0 (by omega) (fun n => absurd n hd) fun _ => ?_
    rfl'
    rw [arr_10]
    refine m_dividesF fv fw b0 (by omega) (fun n => absurd n hd) fun _ => ?_
    rfl'
    obtain ⟨t, et, lt⟩ := tl_bls (n := 1) (b := false) (c := false)
    have lt := Nat.le_trans lt (show _ ≤ sizeLine by decide)
    refine ⟨sz, t, et, lt, sz, t, et, lt, ?_⟩
    rw [show (!t == t) = false by simp]
    rfl'
    unfold s_law_rest
    rfl'
    unfold opNX
    rfl'
    refine mx_restF fv fw b0 (by omega) (fun n => absurd n hd) fun _ => ?_
    unfold optX
    rfl'
    show (∀ v : V, D.non ≠ D.cls v) ∧ _
    refine ⟨fun _ => nofun, ?_⟩
    refine notN_n (neB3 ?_)
    rfl'
    refine ⟨fun _ => nofun, isN_n ?_⟩
    rfl'
    exact h
theorem rst_fm {u : List Rat} (hf : trimQ f ≠ []) (hg : trimQ g ≠ []) (r : Rst f (fmul f g) u) : rst f (fmul f g) u = headed g := by
  have e := r.e
  rw [fmul_pf hf hg] at e
  have := (mo_pf hf).cancel r.m.t (mo_pf hg).t e
  show u ++ z0 (zf (fmul f g) - zf f) = _
  rw [this, fmul_zf hf hg, headed_pf hg, show zf f + zf g - zf f = zf g by omega]
theorem m_two42 {a : Addr} (hf : Lf f) (hg : Lf g) (h : R (.bl true)) : s_law_two_right_k42 [.pot a, encPP f, encPP g] R := by
  have lf := hf.l
  have lg := hg.l
  unfold s_law_two_right_k42
  rfl'
  refine m_lgivenf hf.hs (by omega) (by omega) fun v hv => m_lgivenf hg.hs (by omega) (by omega) fun w hw => ?_
  have fv := hf.gf.fv hv
  have fw := hg.gf.fv hw
  refine m_lformed hf.gf hg.gf (by decide) (by decide) (by decide) (by decide) (by omega) ?_
  rfl'
  unfold parRM
  rfl'
  obtain ⟨t, et, lt⟩ : Tl 2 (.lst [v, w]) (2 * (30 * 2022 + 3 + 2) + 3) := tl_lst (b := 30 * 2022 + 3) (fun d hd => by
    simp only [List.mem_cons, List.not_mem_nil, or_false] at hd
    rcases hd with rfl | rfl
    · exact hv.tl (hf.hs.sn (by decide)) (by omega)
    · exact hw.tl (hg.hs.sn (by decide)) (by omega)) (Nat.le_refl _)
  have lt := Nat.le_trans lt (show _ ≤ sizeLine by decide)
  have ll := fmul_len hf.z hg.z
  refine ⟨sz, t, et, lt, m_productF fv fw (by decide) (by decide) (by omega) fun fm => ?_⟩
  have fm : Fv 20 (fmul f g) (encQ (fmul f g)) := fm
  refine m_ltold (by omega) (neP ?_)
  rfl'
  rw [arr_10]
  refine m_productF fw fv (by decide) (by decide) (by omega) fun _ => ?_
  rw [fmul_comm (f := g)]
  refine eqQ3 ?_
  rfl'
  refine ⟨sz, t, et, lt, ?_⟩
  rw [show (!t == t) = false by simp]
  rfl'
  have d1 := fdv_mul hf.z hg.z
  have d2 := fdv_mul hg.z hf.z
  rw [fmul_comm (f := g)] at d2
  have gz := fmul_z hf.z hg.z
  refine m_dividesF (fv.mono (by decide)) fm (by decide) (by decide) (fun _ => ?_) fun n => absurd d1 n
  rfl'
  rw [show arr [0, 1] [w, encQ (fmul f g)] = [w, encQ (fmul f g)] from rfl]
  refine m_dividesF (fw.mono (by decide)) fm (by decide) (by decide) (fun _ => ?_) fun n => absurd d2 n
  rfl'
  refine m_restF (fv.mono (by decide)) fm (by decide) (by decide) d1 fun u r _ => ?_
  have hlf : (headed f).length = f.length := headed_len
  have hlg : (headed g).length = g.length := headed_len
  rw [rst_fm hf.z hg.z r]
  refine m_ltold (by omega) (m_lheaded hg.hs (by decide) (by decide) (by omega) hg.z (neP ?_))
  rfl'
  rw [arr_10]
  refine m_restF (fw.mono (by decide)) fm (by decide) (by decide) d2 fun u r _ => ?_
  have er : rst g (fmul f g) u = headed f := by
    rw [fmul_comm (f := f)] at r ⊢
    exact rst_fm hg.z hf.z r
  rw [er]
  refine m_ltold (by omega) (m_lheaded hf.hs (by decide) (by decide) (by omega) hf.z (neP ?_))
  rfl'
  refine ⟨_, rfl, by rw [List.length_map]; exact Nat.lt_of_lt_of_le (show (fmul f g).length < 100 by omega) (sz (n := 100)), ?_⟩
  refine m_productF fv fw (by decide) (by decide) (by omega) fun _ => m_ltold (by omega) (eqP h)
end
end Ml
set_option Elab.async false
set_option linter.all false
set_option maxRecDepth 100000
set_option maxHeartbeats 400000
set_option exponentiation.threshold 20000
namespace Ml
open PySem L2 Inn Uv Sl
theorem gf_app0 {B : Nat} {f : List Rat} (h : Gf B f) (hl : f.length < 25) : Gf B (f ++ [0]) := by
  obtain ⟨N, n0, nb, fo⟩ := h.ex
  refine ⟨N, n0, nb, fun q hq => ?_, by rw [List.length_append]; exact hl, fun z => fo.z ?_⟩
  · rcases List.mem_append.mp hq with h1 | h1
    · exact fo.pl q h1
    · rw [List.mem_singleton.mp h1]
      exact ⟨0, by rw [Rat.intCast_zero]; grind, Bt.zero⟩
  · have e : trimQ (f ++ [0]) = trimQ f := trim_congr fun k => cf_app0 (j := 1)
    rw [← e, z]
theorem fv_ints {l : List Int} (hl : l.length ≤ 25) (hb : ∀ i ∈ l, i.natAbs ≤ 5) (hz : trimQ (castL l) ≠ []) : Fv 9 (castL l) (iL l) :=
  ⟨hv_ints l, 1, by decide, by decide, fo_ints hl (fun i hi => Nat.lt_of_le_of_lt (hb i hi) (by decide)) hz⟩
theorem dd_one {p : List Rat} : Dd [1] p := ⟨p, fun x => by rw [pev_one, Rat.one_mul]⟩
theorem one_tim {u : List Rat} (t : TrQ u) : ptim [1] u = u := pev_ext trQ_trim t fun x => by rw [pev_tim, pev_one, Rat.one_mul]
theorem m_right42 {a : Addr} {R : D → Prop} (h : R (.bl true)) : s_law_right_k42 [.pot a] R := by
  unfold s_law_right_k42
  rfl'
  refine m_lform42 (m := 5) (by decide) (by decide) fun f hf lf => m_lform42 (m := 5) (by decide) (by decide) fun g hg lg => m_lform42 (m := 3) (by decide) (by decide) fun k hk lk => ?_
  rfl'
  refine m_two42 hf hg ?_
  rfl'
  refine m_two42 hg hk ?_
  rfl'
  refine m_lformed hf.gf hk.gf (by decide) (by decide) (by decide) (by decide) (by omega) ?_
  have g1 : Gf 20 (fmul f k) := gf_mul hf.gf hk.gf (by decide) (by decide) (by omega)
  have ll := fmul_len hf.z hk.z
  rfl'
  refine ⟨sz, sz, ?_⟩
  refine m_lformed g1 hg.gf (by decide) (by decide) (by decide) (by decide) (by omega) ?_
  have g2 : Gf 35 (fmul (fmul f k) g) := gf_mul g1 hg.gf (by decide) (by decide) (by omega)
  refine ⟨sz, sz, sz, sz, by rw [List.length_map]; exact sz (by omega), sz, sz, sz (n := 6), ?_⟩
  have ea : D.lst (f.map encP ++ [D.tup [.int 0, .int 1]]) = encPP (f ++ [0]) := by
    show _ = D.lst _
    rw [List.map_append]
    rfl
  rw [ea]
  refine forC_map (e := fun x : List Rat × List Rat => D.tup [encPP x.1, encPP x.2]) (fun _ _ => True) () [(f, g), (k, fmul f k), (f, fmul (fmul f k) g), (fmul f k, f), (f ++ [0], f), (g, fmul f k)] trivial (fun ys x zs s nx e _ hn => ?_) fun s _ => ?_
  · have hx : Gf 40 x.1 ∧ Gf 40 x.2 := by
      have m : x ∈ [(f, g), (k, fmul f k), (f, fmul (fmul f k) g), (fmul f k, f), (f ++ [0], f), (g, fmul f k)] := by
        rw [e]
        simp
      have f4 := hf.gf.mono (show 5 ≤ 40 by decide)
      have g4 := hg.gf.mono (show 5 ≤ 40 by decide)
      have k4 := hk.gf.mono (show 5 ≤ 40 by decide)
      have a4 := g1.mono (show 20 ≤ 40 by decide)
      have b4 := g2.mono (show 35 ≤ 40 by decide)
      have c4 := gf_app0 f4 (by omega)
      simp only [List.mem_cons, List.not_mem_nil, or_false] at m
      rcases m with rfl | rfl | rfl | rfl | rfl | rfl
      · exact ⟨f4, g4⟩
      · exact ⟨k4, a4⟩
      · exact ⟨f4, b4⟩
      · exact ⟨a4, f4⟩
      · exact ⟨c4, f4⟩
      · exact ⟨g4, a4⟩
    obtain ⟨x, y⟩ := x
    rfl'
    refine m_any hx.1 hx.2 (by decide) (by decide) ?_
    rfl'
    exact hn _ trivial
  refine m_lgivenf hf.hs (by decide) (by omega) fun v hv => ⟨sz, ?_⟩
  have fv := hf.gf.fv hv
  have v3 : Fv 9 (castL [3]) (iL [3]) := fv_ints (by decide) (by decide) (by decide +kernel)
  have p3 : pf (castL [3]) = [1] := by decide +kernel
  have z3 : zf (castL [3]) = 0 := by decide +kernel
  have d3 : Fdv (castL [3]) f := ⟨by rw [z3]; exact Nat.zero_le _, by rw [p3]; exact dd_one⟩
  have fv9 := fv.mono (show 5 ≤ 9 by decide)
  refine m_dividesF (v := iL [3]) v3 fv9 (by decide) (by decide) (fun _ => ?_) fun n => absurd d3 n
  rfl'
  refine ⟨sz, m_restF (v := iL [3]) v3 fv9 (by decide) (by decide) d3 fun u r _ => ?_⟩
  have er : rst (castL [3]) f u = headed f := by
    have e := r.e
    rw [p3, one_tim r.m.t] at e
    show u ++ z0 (zf f - zf (castL [3])) = _
    rw [z3, e, headed_pf hf.z, Nat.sub_zero]
  rw [er]
  have hlf : (headed f).length = f.length := headed_len
  refine m_ltold (by omega) (m_lheaded hf.hs (by decide) (by decide) (by omega) hf.z (neP ?_))
  rfl'
  refine m_lgivenf hg.hs (by decide) (by omega) fun w hw => ?_
  have fw := hg.gf.fv hw
  have lfg := fmul_len hf.z hg.z
  have v2 : Fv 9 (castL [2, 1]) (iL [2, 1]) := fv_ints (by decide) (by decide) (by decide +kernel)
  have l2 : (castL [2, 1]).length = 2 := rfl
  refine m_productF fv fw (by decide) (by decide) (by omega) fun fm => ⟨sz, ?_⟩
  refine m_productF (w := iL [2, 1]) fm v2 (by decide) (by decide) (by omega) fun _ => ⟨sz, m_lgivenf hg.hs (by decide) (by omega) fun w' hw' => ?_⟩
  have fw' := hg.gf.fv hw'
  have l3 := fmul_len (f := castL [2, 1]) (g := g) v2.z hg.z
  refine m_productF (v := iL [2, 1]) v2 fw' (by decide) (by decide) (by omega) fun fm' => ?_
  refine m_productF fv fm' (by decide) (by decide) (by omega) fun _ => ?_
  rw [fmul_assoc hf.z hg.z v2.z, fmul_comm (f := castL [2, 1])]
  refine eqQ3 ?_
  rfl'
  have a1 : Fv 9 (castL [1, 0]) (iL [1, 0]) := fv_ints (by decide) (by decide) (by decide +kernel)
  have a2 : Fv 9 (castL [0, 1, 0]) (iL [0, 1, 0]) := fv_ints (by decide) (by decide) (by decide +kernel)
  have a3 : Fv 9 (castL [1, 1]) (iL [1, 1]) := fv_ints (by decide) (by decide) (by decide +kernel)
  have a4 : Fv 9 (castL [1, 0, 0]) (iL [1, 0, 0]) := fv_ints (by decide) (by decide) (by decide +kernel)
  have a5 : Fv 9 (castL [0, 1]) (iL [0, 1]) := fv_ints (by decide) (by decide) (by decide +kernel)
  have a6 : Fv 9 (castL [0, 0, 1, 0]) (iL [0, 0, 1, 0]) := fv_ints (by decide) (by decide) (by decide +kernel)
  have d1 : Fdv (castL [1, 0]) (castL [0, 1, 0]) := ⟨by decide +kernel, by rw [show pf (castL [1, 0]) = [1] by decide +kernel]; exact dd_one⟩
  have d2 : ¬ Fdv (castL [1, 1]) (castL [1, 0, 0]) := fun hd => by
    obtain ⟨u, hu⟩ := hd.2
    have e1 : pf (castL [1, 1]) = [1, 1] := by decide +kernel
    have e2 : pf (castL [1, 0, 0]) = [1] := by decide +kernel
    have := hu (-1)
    rw [e1, e2, pev_one, show pev [1, 1] (-1) = 0 by decide +kernel, Rat.zero_mul] at this
    exact absurd this (by decide)
  have p5 : pf (castL [0, 1]) = [0, 1] := by decide +kernel
  have p6 : pf (castL [0, 0, 1, 0]) = [0, 0, 1] := by decide +kernel
  have d5 : Fdv (castL [0, 1]) (castL [0, 0, 1, 0]) := ⟨by decide +kernel, by
    rw [p5, p6]
    exact ⟨[0, 1], fun x => by rw [← pev_tim, show ptim [0, 1] [0, 1] = [0, 0, 1] by decide +kernel]⟩⟩
  refine ⟨sz, sz, m_dividesF (v := iL [1, 0]) (w := iL [0, 1, 0]) a1 a2 (by decide) (by decide) (fun _ => ?_) fun n => absurd d1 n⟩
  rfl'
  refine ⟨sz, sz, m_dividesF (v := iL [1, 1]) (w := iL [1, 0, 0]) a3 a4 (by decide) (by decide) (fun n => absurd n d2) fun _ => ?_⟩
  rfl'
  refine ⟨sz, sz, m_restF (v := iL [0, 1]) (w := iL [0, 0, 1, 0]) a5 a6 (by decide) (by decide) d5 fun u r _ => ?_⟩
  have eu : u = [0, 1] := by
    refine (mo_pf a5.z).cancel r.m.t (TrQ.mk fun _ => by decide +kernel) ?_
    rw [r.e, p5, p6]
    decide +kernel
  have er : rst (castL [0, 1]) (castL [0, 0, 1, 0]) u = [0, 1, 0] := by
    rw [eu]
    decide +kernel
  rw [er]
  have ini : ∀ {i : Int} {R' : List D → Prop}, R' [.int (i : Rat).num, .int (((i : Rat).den : Nat) : Int)] → s_Ratio_init [.int i, .int 1] R' := fun h => m_init (b := 1) (k := 1) (by decide) (by decide) (by decide) (by
    rw [rq_one]
    exact h)
  refine ini (i := 0) (ini (i := 1) (ini (i := 0) ⟨sz, ?_⟩))
  have e : (D.lst [.ins 0 [.int ((0 : Int) : Rat).num, .int ((((0 : Int) : Rat).den : Nat) : Int)], .ins 0 [.int ((1 : Int) : Rat).num, .int ((((1 : Int) : Rat).den : Nat) : Int)], .ins 0 [.int ((0 : Int) : Rat).num, .int ((((0 : Int) : Rat).den : Nat) : Int)]]) = encQ [0, 1, 0] := rfl
  rw [e]
  refine m_eq (fun d hd => ?_) h
  obtain ⟨x, _, rfl⟩ := List.mem_map.mp hd
  exact eqr_rat
end Ml
set_option Elab.async false
set_option linter.all false
set_option maxRecDepth 100000
set_option maxHeartbeats 4000000
set_option exponentiation.threshold 20000
open PySem PySem.W PySem.Calls PyProof.Rows
set_option maxHeartbeats 0 in
theorem PySem.Challenge.cw_innerfractions_k42_whole_products_of_for_holds : PySem.Challenge.rw_innerfractions_k42_whole_products_of_for.Holds := by
  w_on; o_law
  refine HandSHeadRun.head_imp (r := OpenLaw.row PySem.Challenge.rw_innerfractions_k42_whole_products_of_for) (q := view (OpenLaw.row PySem.Challenge.rw_innerfractions_k42_whole_products_of_for).prog [0, 74]) (H := K42.hk) (ob := K42.ob) (M := 30000) (loose := K42.names) (d := HandSHeadRun.topDef (OpenLaw.row PySem.Challenge.rw_innerfractions_k42_whole_products_of_for).prog 74) (kwd := []) K42.ob_eq K42.run
    (by kernel_rfl) (by kernel_rfl) (by kernel_rfl) (by rfl) (by first | assumption | decide +kernel) (by decide +kernel) ⟨rfl, rfl, rfl, rfl, rfl, by decide +kernel⟩ ?hw ?hc
  case hw => w_witness2
  case hc =>
    refine Uv.walkE (l := PySem.Challenge.rw_innerfractions_k42_whole_products_of_for) (n := 63) (k := 13) (x := "_law_script") rfl (by decide) (by kernel_rfl) ⟨rfl, by decide, by decide⟩ ?F
    intro w mg fa h Y G hmg0
    obtain ⟨K, KX, c⟩ := Y
    have hmg : mg ("law" : PySem.Str) = some (.ref fa) := by
      have e : (HandSHeadRun.topDef (OpenLaw.row PySem.Challenge.rw_innerfractions_k42_whole_products_of_for).prog 74).name = ("law" : PySem.Str) := by kernel_rfl
      rw [← e]
      exact hmg0
    obtain ⟨fd, hb, hF⟩ := K42.law_of (P := (PySem.Challenge.rw_innerfractions_k42_whole_products_of_for).prog) (w := w) KX G c hmg fun a R h => Ml.m_right42 h
    exact ⟨K, fd, Uv.spLaw K, KX, hb, fun T a ns oT hS => ⟨a, ns, rfl, hS, fun _ => rfl⟩, hF⟩
